import itertools
import random
import unittest

from lastproof.formulas.meaning import clause_holds, holds, uses_of
from lastproof.formulas.worlds import World
from tests.formula_samples import parsed, random_formula, random_world, uses_of_clauses
from tests.samples import A, ANSWER, B, F, P, PART, Q, SKOLEM, TRUTH, f, g, p, q, random_clause

a, b = A[0], B[0]


def atom(term):
    return ("atom", term)


def naive_value(term, world, values):
    if isinstance(term, int):
        return values[term]
    if term == ((0, 0, 0), ()):
        return 1
    arguments = [naive_value(argument, world, values) for argument in term[1]]
    order = list(itertools.product(range(world.size), repeat=len(arguments)))
    return world.tables[(term[0], len(arguments))][order.index(tuple(arguments))]


def naive_holds(formula, world, values):
    word, *parts = formula
    if word == "atom":
        return naive_value(parts[0], world, values) == 1
    if word == "equal":
        return naive_value(parts[0], world, values) == naive_value(parts[1], world, values)
    if word in ("all", "some"):
        results = [naive_holds(parts[1], world, {**values, parts[0]: k}) for k in range(world.size)]
        return all(results) if word == "all" else any(results)
    results = [naive_holds(part, world, values) for part in parts]
    if word == "not":
        return not results[0]
    return {"and": results[0] and results[1], "or": results[0] or results[1],
            "implies": not results[0] or results[1], "iff": results[0] is results[1]}[word] if len(results) == 2 else None


class WorldTest(unittest.TestCase):
    def test_the_fields(self):
        world = World(2, {(P, 1): (0, 1)})
        self.assertEqual((world.size, world.tables), (2, {(P, 1): (0, 1)}))
        self.assertEqual(World(tables={}, size=0).tables, {})

    def test_the_dict_is_copied(self):
        tables = {(P, 1): (0, 1)}
        world = World(2, tables)
        tables[(Q, 0)] = (1,)
        self.assertEqual(world.tables, {(P, 1): (0, 1)})
        world.tables.clear()
        self.assertEqual(len(tables), 2)

    def test_the_order_of_the_tables_stays(self):
        tables = {(Q, 0): (1,), (P, 1): (0, 1), (a, 0): (1,)}
        self.assertEqual(list(World(2, tables).tables), list(tables))


class FormulasTest(unittest.TestCase):
    def check(self, formula, world, result):
        self.assertIs(holds(formula, world), result)

    def test_atoms(self):
        world = World(1, {(P, 0): (1,), (Q, 0): (0,)})
        self.check(atom(p()), world, True)
        self.check(atom(q()), world, False)

    def test_constants_and_equalities(self):
        world = World(3, {(a, 0): (2,), (b, 0): (1,), (P, 1): (0, 1, 0)})
        self.check(atom(p(A)), world, False)
        self.check(atom(p(B)), world, True)
        self.check(("equal", A, A), world, True)
        self.check(("equal", A, B), world, False)

    def test_the_first_argument_is_the_first_digit(self):
        tables = {(a, 0): (2,), (b, 0): (1,), (F, 2): tuple(range(9)), (P, 2): (0,) * 7 + (1, 0)}
        world = World(3, {**tables, (F, 2): (0, 0, 0, 0, 0, 0, 0, 1, 0)})
        self.check(("equal", f(A, B), B), world, True)
        self.check(("equal", f(B, A), B), world, False)
        self.check(atom(p(A, B)), world, True)
        self.check(atom(p(B, A)), world, False)
        three = World(2, {(P, 3): (0, 0, 0, 0, 1, 0, 0, 0), (a, 0): (1,), (b, 0): (0,)})
        self.check(atom(p(A, B, B)), three, True)
        for arguments in [(B, B, A), (B, A, B), (A, A, B), (A, B, A), (A, A, A)]:
            self.check(atom(p(*arguments)), three, False)

    def test_functions_in_functions(self):
        world = World(3, {(a, 0): (0,), (F, 1): (1, 2, 0), (F, 2): (0, 1, 2, 0, 1, 2, 0, 1, 2)})
        self.check(("equal", f(f(f(A))), A), world, True)
        self.check(("equal", f(f(A)), A), world, False)
        self.check(("equal", f(f(A), f(f(A))), f(f(A))), world, True)

    def test_the_same_symbol_with_different_numbers_of_arguments(self):
        world = World(2, {(P, 0): (1,), (P, 1): (0, 1), (P, 2): (0, 0, 1, 0), (F, 0): (1,), (F, 1): (0, 0)})
        self.check(atom(p()), world, True)
        self.check(atom(p(f())), world, True)
        self.check(atom(p(f(f()))), world, False)
        self.check(atom(p(f(), f(f()))), world, True)
        self.check(atom(p(f(f()), f())), world, False)

    def test_each_kind_of_symbol(self):
        world = World(2, {((0, 0, 0), 1): (0, 1), (SKOLEM, 1): (1, 1), (a, 0): (0,), (PART, 1): (0, 1), (ANSWER, 2): (0, 0, 1, 0)})
        skolem = (SKOLEM, (A,))
        self.check(("equal", skolem, A), world, False)
        self.check(atom((PART, (skolem,))), world, True)
        self.check(atom((PART, (A,))), world, False)
        self.check(atom((ANSWER, (skolem, A))), world, True)
        self.check(atom((ANSWER, (A, skolem))), world, False)
        self.check(atom(((0, 0, 0), (A,))), world, False)
        self.check(atom(((0, 0, 0), (skolem,))), world, True)

    def test_truth_always_holds(self):
        for tables in ({}, {((0, 0, 0), 0): (0,)}):
            self.check(atom(TRUTH), World(1, tables), True)
            self.check(("not", atom(TRUTH)), World(2, tables), False)

    def test_each_form(self):
        world = World(1, {(P, 0): (1,), (Q, 0): (0,)})
        yes, no = atom(p()), atom(q())
        self.check(("not", yes), world, False)
        self.check(("not", no), world, True)
        for word, results in [("and", (True, False, False, False)), ("or", (True, True, True, False)),
                              ("implies", (True, False, True, True)), ("iff", (True, False, False, True))]:
            for pair, result in zip([(yes, yes), (yes, no), (no, yes), (no, no)], results):
                self.check((word,) + pair, world, result)

    def test_quantifiers(self):
        for table, every, one in [((1, 1, 1), True, True), ((0, 0, 0), False, False), ((0, 0, 1), False, True),
                                  ((1, 0, 0), False, True), ((1, 1, 0), False, True)]:
            world = World(3, {(P, 1): table})
            self.check(("all", 4, atom(p(4))), world, every)
            self.check(("some", 4, atom(p(4))), world, one)
        order = World(2, {(P, 2): (0, 1, 1, 0)})
        self.check(("all", 0, ("some", 1, atom(p(0, 1)))), order, True)
        self.check(("some", 1, ("all", 0, atom(p(0, 1)))), order, False)
        less = World(3, {(P, 2): (0, 1, 1, 0, 0, 1, 0, 0, 0)})
        self.check(("some", 0, ("all", 1, ("or", ("equal", 0, 1), atom(p(0, 1))))), less, True)
        self.check(("some", 0, ("all", 1, ("not", atom(p(0, 1))))), less, True)
        self.check(("some", 0, ("all", 1, atom(p(0, 1)))), less, False)

    def test_variables_that_are_bound_again(self):
        world = World(2, {(P, 1): (0, 1), (Q, 1): (1, 0)})
        inside = ("some", 0, atom(p(0)))
        self.check(("some", 0, ("and", inside, atom(q(0)))), world, True)
        self.check(("all", 0, ("and", inside, atom(q(0)))), world, False)
        self.check(("some", 0, ("and", atom(q(0)), ("some", 0, atom(p(0))))), world, True)

    def test_against_a_plain_restatement(self):
        source = random.Random(53)
        results = {True: 0, False: 0}
        for _ in range(600):
            formula = random_formula(source, 4)
            world = random_world(source, uses_of([formula]), source.randrange(1, 4))
            expected = naive_holds(formula, world, {})
            self.check(formula, world, expected)
            results[expected] += 1
        self.assertGreater(min(results.values()), 150)

    def test_the_world_stays(self):
        world = World(2, {(P, 1): (0, 1)})
        holds(("all", 0, atom(p(0))), world)
        self.assertEqual((world.size, world.tables), (2, {(P, 1): (0, 1)}))

    def test_deep_formulas(self):
        formula = ("all", 0, atom(p(0)))
        for _ in range(300):
            formula = ("not", formula)
        self.check(formula, World(2, {(P, 1): (1, 1)}), True)
        for _ in range(60):
            formula = ("some", 1, formula)
        self.check(formula, World(1, {(P, 1): (1,)}), True)


class ClausesTest(unittest.TestCase):
    def check(self, clause, world, result):
        self.assertIs(clause_holds(clause, world), result)

    def test_the_empty_clause(self):
        for size in (1, 2, 3):
            self.check((), World(size, {}), False)

    def test_literals_with_an_atom(self):
        for table, result in [((1, 1), True), ((0, 1), False), ((1, 0), False), ((0, 0), False)]:
            world = World(2, {(P, 1): table})
            self.check(((True, p(0), TRUTH),), world, result)
            self.check(((True, TRUTH, p(0)),), world, result)
            opposite = World(2, {(P, 1): tuple(1 - value for value in table)})
            self.check(((False, p(0), TRUTH),), opposite, result)
            self.check(((False, TRUTH, p(0)),), opposite, result)

    def test_truth_alone(self):
        self.check(((True, TRUTH, TRUTH),), World(1, {}), True)
        self.check(((False, TRUTH, TRUTH),), World(1, {}), False)

    def test_literals_with_two_atoms(self):
        for left, right in itertools.product((0, 1), repeat=2):
            world = World(2, {(P, 0): (left,), (Q, 0): (right,)})
            self.check(((True, p(), q()),), world, left == right)
            self.check(((False, p(), q()),), world, left != right)
        world = World(2, {(P, 1): (0, 1), (Q, 1): (1, 0)})
        self.check(((False, p(0), q(0)),), world, True)
        self.check(((True, p(0), q(0)),), world, False)
        self.check(((True, p(0), q(1)),), world, False)

    def test_equalities(self):
        world = World(3, {(a, 0): (2,), (b, 0): (2,), (F, 1): (0, 1, 2), ((2, 1, 0), 1): (0, 1, 1)})
        self.check(((True, A, B),), world, True)
        self.check(((False, A, B),), world, False)
        self.check(((True, f(0), 0),), world, True)
        self.check(((True, g(0), 0),), world, False)
        self.check(((True, 0, 1),), world, False)
        self.check(((True, 0, 0),), world, True)
        self.check(((True, 0, 1),), World(1, {}), True)

    def test_several_variables_and_literals(self):
        world = World(3, {(P, 2): (0, 1, 1, 0, 0, 1, 0, 0, 0)})
        total = ((True, p(0, 1), TRUTH), (True, p(1, 0), TRUTH), (True, 0, 1))
        self.check(total, world, True)
        self.check(total[:2], world, False)
        self.check(total[1:], world, False)
        self.check(((False, p(0, 1), TRUTH), (False, p(1, 2), TRUTH), (True, p(0, 2), TRUTH)), world, True)
        self.check(((False, p(0, 1), TRUTH), (False, p(0, 2), TRUTH), (True, p(1, 2), TRUTH)), world, False)
        self.check(((False, p(7, 9), TRUTH), (False, p(9, 7), TRUTH)), world, True)

    def test_against_formulas(self):
        source = random.Random(54)
        results = {True: 0, False: 0}
        for _ in range(400):
            clause = random_clause(source, depth=1, variables=3)
            world = random_world(source, uses_of_clauses([clause]), source.randrange(1, 4))
            formula = ("not", atom(TRUTH))
            for positive, left, right in clause:
                one = ("equal", left, right) if right != TRUTH else atom(left)
                formula = ("or", formula, one if positive else ("not", one))
            for variable in range(3):
                formula = ("all", variable, formula)
            expected = naive_holds(formula, world, {})
            self.check(clause, world, expected)
            results[expected] += 1
        self.assertGreater(min(results.values()), 60)

    def test_many_variables(self):
        clause = tuple((True, p(k), TRUTH) for k in range(300))
        self.check(clause, World(1, {(P, 1): (1,)}), True)
        self.check(clause, World(1, {(P, 1): (0,)}), False)
        self.check(clause, World(2, {(P, 1): (0, 0)}), False)
        self.check(tuple((False, p(k), TRUTH) for k in range(12)), World(2, {(P, 1): (0, 0)}), True)


class UsesTest(unittest.TestCase):
    def test_a_symbol_comes_before_its_arguments(self):
        self.assertEqual(uses_of([atom(p(f(A), g(B, A)))]),
                         [(P, 1 + 1), (F, 1), (a, 0), ((2, 1, 0), 2), (b, 0)])

    def test_the_order_of_the_text(self):
        formula = parsed("all x. q(x) implies (f(b) = a or not p(c))", [(True, "p"), (False, "a"), (False, "b")])
        self.assertEqual(uses_of([formula]), [
            ((1, 3, 0), 1), ((2, 4, 0), 1), ((2, 2, 0), 0), ((2, 1, 0), 0), ((1, 0, 0), 1), ((2, 5, 0), 0)])
        for word in ("and", "or", "implies", "iff"):
            self.assertEqual(uses_of([(word, atom(q()), ("not", (word, atom(p(A)), atom(q(0)))))]),
                             [(Q, 0), (P, 1), (a, 0), (Q, 1)])

    def test_each_use_once(self):
        self.assertEqual(uses_of([("and", ("equal", f(A), f(f(A))), atom(p(A))), atom(p(B))]),
                         [(F, 1), (a, 0), (P, 1), (b, 0)])

    def test_different_numbers_of_arguments_are_different_uses(self):
        self.assertEqual(uses_of([atom(p(f(), f(f())))]), [(P, 2), (F, 0), (F, 1)])

    def test_several_formulas(self):
        self.assertEqual(uses_of([atom(q()), ("some", 0, atom(p(0))), ("equal", A, B)]), [(Q, 0), (P, 1), (a, 0), (b, 0)])
        self.assertEqual(uses_of([]), [])
        self.assertEqual(uses_of([("all", 0, ("equal", 0, 0))]), [])

    def test_truth_is_left_out(self):
        self.assertEqual(uses_of([atom(TRUTH), ("and", atom(TRUTH), atom(p()))]), [(P, 0)])
        self.assertEqual(uses_of([atom(((0, 0, 0), (A,)))]), [((0, 0, 0), 1), (a, 0)])

    def test_each_kind_of_symbol(self):
        self.assertEqual(uses_of([atom((PART, ((SKOLEM, (0,)),))), atom((ANSWER, ()))]), [(PART, 1), (SKOLEM, 1), (ANSWER, 0)])

    def test_the_list_is_new(self):
        formulas = [atom(p())]
        uses_of(formulas).clear()
        self.assertEqual(uses_of(formulas), [(P, 0)])
        self.assertEqual(formulas, [atom(p())])
