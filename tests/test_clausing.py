import random
import unittest

from lastproof.clauses.clausing import clauses_of
from lastproof.formulas.meaning import clause_holds, holds, uses_of
from lastproof.formulas.worlds import World
from lastproof.terms.literals import is_well_formed, renumbered
from lastproof.texts.writing import clause_text
from lastproof.formulas.parsing import parse_formula
from lastproof.formulas.tokens import tokens
from tests.formula_samples import parsed, random_formula, random_world, tables_for, uses_of_clauses, ways
from tests.samples import TRUTH

NAMES = [(True, n) for n in "pqrstuvw"] + [(False, n) for n in "abcfgh"]


class ClausesTest(unittest.TestCase):
    def check(self, text, expected):
        formula, names = parse_formula(tokens(text, 1), (1, 1), NAMES)
        self.assertEqual([clause_text(clause, names) for clause in clauses_of(4, formula)], expected, text)

    def test_the_example_of_the_interface(self):
        p = (1, 0, 0)
        self.assertEqual(clauses_of(4, ("all", 0, ("some", 1, ("atom", (p, (0, 1)))))),
                         [((True, ((1, 0, 0), (0, ((3, 4, 0), (0,)))), ((0, 0, 0), ())),)])

    def test_one_literal(self):
        self.check("p", ["p"])
        self.check("not p(a)", ["not p(a)"])
        self.check("a = b", ["a = b"])
        self.check("a != f(b)", ["a != f(b)"])
        self.check("not not p", ["p"])
        self.assertEqual(clauses_of(4, ("atom", TRUTH)), [((True, TRUTH, TRUTH),)])

    def test_and(self):
        self.check("p and q and r", ["p", "q", "r"])
        self.check("p and (q and (r and s))", ["p", "q", "r", "s"])
        self.check("not (p or q)", ["not p", "not q"])
        self.check("not (p implies q)", ["p", "not q"])

    def test_or_with_one_clause_on_each_side(self):
        self.check("p or q or r", ["p or q or r"])
        self.check("p or (q or (r or s))", ["p or q or r or s"])
        self.check("p implies q", ["not p or q"])
        self.check("not (p and q)", ["not p or not q"])

    def test_or_with_one_clause_on_one_side(self):
        self.check("p or (q and r)", ["p or q", "p or r"])
        self.check("(q and r) or p", ["q or p", "r or p"])
        self.check("(p or q) or (r and s and t)", ["p or q or r", "p or q or s", "p or q or t"])
        self.check("(p and q) implies r", ["not p or not q or r"])
        self.check("p implies (q and r)", ["not p or q", "not p or r"])

    def test_or_with_several_clauses_on_both_sides(self):
        self.check("(p and q) or (r and s)", ["p or &4_0", "q or &4_0", "not &4_0 or r", "not &4_0 or s"])
        self.check("(p and q and r) or (s and t)",
                   ["p or &4_0", "q or &4_0", "r or &4_0", "not &4_0 or s", "not &4_0 or t"])

    def test_additional_clauses_come_after_all_clauses(self):
        self.check("((p and q) or (r and s)) and t", ["p or &4_0", "q or &4_0", "t", "not &4_0 or r", "not &4_0 or s"])
        self.check("((p and q) or (r and s)) and ((t and u) or (v and w))", [
            "p or &4_0", "q or &4_0", "t or &4_1", "u or &4_1",
            "not &4_0 or r", "not &4_0 or s", "not &4_1 or v", "not &4_1 or w"])
        self.check("((p and q) or (r and s)) or t",
                   ["p or &4_0 or t", "q or &4_0 or t", "not &4_0 or r", "not &4_0 or s"])
        self.check("t or ((p and q) or (r and s))",
                   ["t or p or &4_0", "t or q or &4_0", "not &4_0 or r", "not &4_0 or s"])

    def test_the_name_of_the_right_side_is_made_after_those_inside_of_both(self):
        self.check("((p and q) or (r and s)) or ((t and u) or (v and w))", [
            "p or &4_0 or &4_2", "q or &4_0 or &4_2",
            "not &4_0 or r", "not &4_0 or s", "not &4_1 or v", "not &4_1 or w",
            "not &4_2 or t or &4_1", "not &4_2 or u or &4_1"])

    def test_the_arguments_of_the_name_of_a_right_side(self):
        self.check("all x y. (p(x) and q(y)) or (r(y) and s(x))", [
            "p(?0) or &4_0(?1, ?0)", "q(?0) or &4_0(?0, ?1)",
            "not &4_0(?0, ?1) or r(?0)", "not &4_0(?0, ?1) or s(?1)"])
        # A variable of a quantifier inside of the right side counts.
        self.check("all x. (p(x) and q(x)) or (all y. r(y) and s(y))", [
            "p(?0) or &4_0(?1)", "q(?0) or &4_0(?1)", "not &4_0(?0) or r(?0)", "not &4_0(?0) or s(?0)"])
        # Equalities are read from left to right.
        self.check("all x y z. (p and q) or (f(y) = x and r(z))", [
            "p or &4_0(?0, ?1, ?2)", "q or &4_0(?0, ?1, ?2)",
            "not &4_0(?0, ?1, ?2) or f(?0) = ?1", "not &4_0(?0, ?1, ?2) or r(?2)"])
        # So do variables that occur only in Skolem functions.
        self.check("all x y. (p(x) and q(y)) or (some z. r(z) and s(z))", [
            "p(?0) or &4_0(?0, ?1)", "q(?0) or &4_0(?1, ?0)",
            "not &4_0(?0, ?1) or r($4_0(?0, ?1))", "not &4_0(?0, ?1) or s($4_0(?0, ?1))"])
        # Variables around the right side that do not occur in it do not.
        self.check("all x y. (p(x) and q(y)) or (r and s)", [
            "p(?0) or &4_0", "q(?0) or &4_0", "not &4_0 or r", "not &4_0 or s"])

    def test_skolem_functions_have_the_variables_around_them(self):
        self.check("some x. p(x)", ["p($4_0)"])
        self.check("some x y. p(x, y)", ["p($4_0, $4_1)"])
        self.check("all x. some y. all z. some w. p(x, y, z, w)", ["p(?0, $4_0(?0), ?1, $4_1(?0, ?1))"])
        self.check("all x y. some z. p(z, y)", ["p($4_0(?0, ?1), ?1)"])
        self.check("not (all x. p(x))", ["not p($4_0)"])
        self.check("not (some x. all y. p(x, y))", ["not p(?0, $4_0(?0))"])
        self.check("all x. f(x) = x implies (some y. y != x)", ["f(?0) != ?0 or $4_0(?0) != ?0"])

    def test_variables_around_are_those_of_quantifiers_around_only(self):
        self.check("(all x. p(x)) and (some y. q(y))", ["p(?0)", "q($4_0)"])
        self.check("(all x. p(x)) or (all z. some y. q(y))", ["p(?0) or q($4_0(?1))"])
        self.check("(some x. p(x)) or (some x. q(x))", ["p($4_0) or q($4_1)"])
        self.check("all x. (all y. p(x, y)) or (some z. q(z, x))", ["p(?0, ?1) or q($4_0(?0), ?0)"])

    def test_variables_that_are_bound_again(self):
        p, q = (1, 0, 0), (1, 1, 0)
        formula = ("all", 0, ("and", ("some", 0, ("atom", (p, (0,)))), ("atom", (q, (0,)))))
        self.assertEqual(clauses_of(4, formula), [
            ((True, (p, (((3, 4, 0), (0,)),)), TRUTH),), ((True, (q, (0,)), TRUTH),)])
        formula = ("all", 5, ("all", 5, ("some", 2, ("atom", (p, (5, 2))))))
        self.assertEqual(clauses_of(4, formula), [((True, (p, (0, ((3, 4, 0), (1, 0)))), TRUTH),)])

    def test_iff_without_names(self):
        self.check("p iff q", ["not p or q", "p or not q"])
        self.check("not (p iff q)", ["p or q", "not p or not q"])
        self.check("not p iff a = b", ["p or a = b", "not p or a != b"])
        self.check("all x. p(x) iff (not q(x))", ["not p(?0) or not q(?0)", "p(?0) or q(?0)"])

    def test_names_for_the_sides_of_iff(self):
        self.check("p iff (q and r)", [
            "not p or &4_0", "p or not &4_0", "not &4_0 or q", "not &4_0 or r", "&4_0 or not q or not r"])
        self.check("p iff (q iff r)", [
            "not p or &4_0", "p or not &4_0", "not &4_0 or not q or r", "not &4_0 or q or not r",
            "&4_0 or q or r", "&4_0 or not q or not r"])
        self.check("(p iff q) iff r", [
            "not &4_0 or r", "&4_0 or not r", "not &4_0 or not p or q", "not &4_0 or p or not q",
            "&4_0 or p or q", "&4_0 or not p or not q"])

    def test_names_of_parts_continue_after_those_for_the_sides_of_iff(self):
        self.check("((p and q) iff r) or (s and t)", [
            "not &4_0 or r or &4_1", "&4_0 or not r or &4_1", "not &4_1 or s", "not &4_1 or t",
            "not &4_0 or p", "not &4_0 or q", "&4_0 or not p or not q"])
        self.check("((p and q) or (r and s)) iff ((t and u) or (v and w))", [
            "not &4_0 or &4_1", "&4_0 or not &4_1",
            "not &4_0 or p or &4_2", "not &4_0 or q or &4_2", "&4_0 or not p or not q", "&4_0 or not r or not s",
            "not &4_2 or r", "not &4_2 or s",
            "not &4_1 or t or &4_3", "not &4_1 or u or &4_3", "&4_1 or not t or not u", "&4_1 or not v or not w",
            "not &4_3 or v", "not &4_3 or w"])

    def test_skolem_functions_are_counted_through_all_formulas_and_both_occurrences(self):
        self.check("(all x. some y. p(x, y)) iff (some x. all y. q(x, y) iff p(y, x))", [
            "not &4_0 or &4_1", "&4_0 or not &4_1",
            "not &4_0 or p(?0, $4_0(?0))", "&4_0 or not p($4_1, ?0)",
            "not &4_1 or not q($4_2, ?0) or p(?0, $4_2)", "not &4_1 or q($4_2, ?0) or not p(?0, $4_2)",
            "&4_1 or q(?0, $4_3(?0)) or p($4_3(?0), ?0)", "&4_1 or not q(?0, $4_3(?0)) or not p($4_3(?0), ?0)"])
        self.check("(some x. p(x)) and ((some y. q(y)) or (some z. r(z)))", ["p($4_0)", "q($4_1) or r($4_2)"])

    def test_each_formula_of_the_list_begins_with_variable_0(self):
        self.check("all x. p(x) iff (some y. q(x, y))", [
            "not p(?0) or &4_0(?0)", "p(?0) or not &4_0(?0)",
            "not &4_0(?0) or q(?0, $4_0(?0))", "&4_0(?0) or not q(?0, ?1)"])

    def test_literals_that_are_the_same(self):
        self.check("p or q or p", ["p or q"])
        self.check("p or p", ["p"])
        self.check("q or p or p or q", ["q or p"])
        self.check("a = b or c = a or b = a or a = b", ["a = b or c = a"])
        self.check("a != b or b != a", ["a != b"])
        self.check("p or not p or p", ["p or not p"])
        self.check("a = b or a != b or b = a", ["a = b or a != b"])
        self.check("all x. p(x) or p(x) or p(a)", ["p(?0) or p(a)"])

    def test_literals_that_are_the_same_do_not_change_the_split(self):
        self.check("(p and p) or (q and q)", ["p or &4_0", "p or &4_0", "not &4_0 or q", "not &4_0 or q"])

    def test_renumbering(self):
        self.check("all x y z. p(z) or q(x, z)", ["p(?0) or q(?1, ?0)"])
        self.check("all x y. p(y) and q(x)", ["p(?0)", "q(?0)"])
        self.check("all x y. x = y or y = x or f(y) != x", ["?0 = ?1 or f(?1) != ?0"])

    def test_the_number(self):
        for number in (0, 5, 999999):
            clauses = clauses_of(number, parsed("(some x. p(x)) iff (q and r)"))
            symbols = {(symbol[0], symbol[1]) for symbol, _ in uses_of_clauses(clauses)}
            self.assertEqual(symbols, {(1, 0), (1, 1), (1, 2), (3, number), (4, number)})

    def test_the_formula_stays_and_the_list_is_new(self):
        formula = parsed("p and q")
        clauses_of(4, formula).clear()
        self.assertEqual(len(clauses_of(4, formula)), 2)
        self.assertIs(type(clauses_of(4, formula)), list)


def has_extension(clauses, new, world):
    """Tell whether tables for the new symbols can be added to the world such that all clauses hold."""
    for tables in tables_for(new, world.size):
        larger = World(world.size, {**world.tables, **tables})
        if all(clause_holds(clause, larger) for clause in clauses):
            return True
    return False


class MeaningTest(unittest.TestCase):
    def test_the_clauses_mean_what_the_formula_means(self):
        source = random.Random(62)
        checked = {True: 0, False: 0}
        for _ in range(1500):
            formula = random_formula(source, source.choice([3, 4]), terms=source.random() < 0.3)
            clauses = clauses_of(4, formula)
            uses = uses_of([formula])
            new = [use for use in uses_of_clauses(clauses) if use not in uses]
            size = source.choice([1, 2, 2])
            if not new or ways(new, size) > 1000:
                continue
            world = random_world(source, uses + [((2, 9, 0), 0)] * (((2, 9, 0), 0) not in uses), size)
            result = holds(formula, world)
            checked[result] += 1
            self.assertEqual(has_extension(clauses, new, world), result, formula)
        self.assertGreater(min(checked.values()), 80)

    def test_the_form_of_the_clauses(self):
        source = random.Random(61)
        for _ in range(300):
            clauses = clauses_of(9, random_formula(source, 5))
            made = [symbol for symbol, _ in uses_of_clauses(clauses) if symbol[0] in (3, 4)]
            for clause in clauses:
                self.assertTrue(is_well_formed(clause))
                self.assertGreater(len(clause), 0)
                self.assertEqual(renumbered(clause)[0], clause)
                keys = [(positive, frozenset([left, right])) for positive, left, right in clause]
                self.assertEqual(len(keys), len(set(keys)))
            for kind in (3, 4):
                numbers = {symbol[2] for symbol in made if symbol[0] == kind}
                self.assertTrue(all(symbol[1] == 9 for symbol in made))
                if kind == 4:
                    self.assertEqual(numbers, set(range(len(numbers))))


class BoundsTest(unittest.TestCase):
    def test_200_connectives(self):
        p = ("atom", ((1, 0, 0), ()))
        formula = p
        for _ in range(220):
            formula = ("not", formula)
        self.assertEqual(clauses_of(0, formula), [((True, ((1, 0, 0), ()), TRUTH),)])
        for word, many in (("and", 100), ("or", 1)):
            left = right = ("atom", ((1, 0, 0), ()))
            for n in range(1, 100):
                atom = ("atom", ((1, n, 0), ()))
                left, right = (word, left, atom), (word, atom, right)
            self.assertEqual(len(clauses_of(0, left)), many)
            self.assertEqual(len(clauses_of(0, right)), many)
        for word in ("all", "some"):
            formula = ("atom", ((1, 0, 0), tuple(range(60))))
            for variable in range(60):
                formula = (word, variable, formula)
            self.assertEqual(len(clauses_of(0, formula)), 1)

    def test_40_times_iff(self):
        left = right = ("atom", ((1, 0, 0), ()))
        for n in range(1, 41):
            atom = ("atom", ((1, n, 0), ()))
            left, right = ("iff", left, atom), ("iff", atom, right)
        self.assertEqual(len(clauses_of(0, left)), 2 + 39 * 4)
        self.assertEqual(len(clauses_of(0, right)), 2 + 39 * 4)

    def test_many_literals(self):
        atoms = [("atom", ((1, n, 0), ())) for n in range(100)]
        disjunction, conjunction = atoms[0], atoms[50]
        for atom in atoms[1:50]:
            disjunction = ("or", disjunction, atom)
        for atom in atoms[51:]:
            conjunction = ("and", conjunction, atom)
        clauses = clauses_of(0, ("or", disjunction, conjunction))
        self.assertEqual([len(clause) for clause in clauses], [51] * 50)
