import copy
import random
import unittest

from lastproof.derivations.searching import accepts_world, find_world
from lastproof.formulas.meaning import holds, uses_of
from lastproof.formulas.worlds import World
from tests.formula_samples import parsed, random_formula, random_world, tables_for, ways

P, Q = (1, 0, 0), (1, 1, 0)
F, A, B = (2, 2, 0), (2, 3, 0), (2, 4, 0)
SKOLEM, PART, ANSWER = (3, 0, 0), (4, 0, 0), (5, 0, 0)
TRUTH = ((0, 0, 0), ())
NAMES = [(True, "p"), (True, "q"), (False, "f"), (False, "a"), (False, "b")]


def formulas(*texts):
    return [parsed(text, NAMES) for text in texts]


class AcceptsTest(unittest.TestCase):
    def check(self, size, tables, texts, result):
        world, told = World(size, tables), formulas(*texts)
        before = copy.deepcopy((tables, told))
        self.assertIs(accepts_world(world, told), result)
        self.assertEqual((world.size, world.tables, told), (size,) + before)

    def test_formulas_that_hold_and_that_do_not(self):
        tables = {(P, 1): (1, 0), (A, 0): (0,), (F, 1): (1, 0)}
        self.check(2, tables, ["p(a)", "not p(f(a))", "all x. f(f(x)) = x", "some x. not p(x)"], True)
        self.check(2, tables, ["p(a)", "p(f(a))"], False)
        self.check(2, tables, ["all x. p(x)"], False)

    def test_no_formulas(self):
        for size in (1, 2, 8, 100):
            self.check(size, {}, [], True)
        self.check(3, {(P, 1): (1, 0, 1)}, [], True)

    def test_the_size(self):
        for size in (0, -1, -5):
            self.check(size, {}, [], False)
            self.check(size, {}, ["all x. p(x)"], False)
        self.check(0, {(P, 1): ()}, [], False)
        self.check(1, {(P, 1): (1,)}, ["all x. p(x)"], True)

    def test_a_use_without_a_table(self):
        self.check(2, {}, ["not p(a)", "all x. f(x) = a", "all x y. not q(x, y)"], True)
        self.check(2, {}, ["p(a)"], False)
        self.check(2, {(P, 1): (1, 0)}, ["p(a)", "p(f(b))"], True)
        self.check(2, {(P, 1): (0, 1)}, ["p(a)"], False)
        # A table for another number of arguments is none for this one.
        self.check(2, {(P, 1): (1, 1)}, ["p(a, a)"], False)
        self.check(2, {(A, 0): (1,)}, ["p(a) or a = b"], False)

    def test_too_many_or_too_few_values(self):
        for symbol, many, right in [(P, 0, 1), (P, 1, 2), (P, 2, 4), (F, 1, 2), (F, 3, 8), (A, 0, 1), (SKOLEM, 1, 2), (PART, 2, 4)]:
            for length in range(10):
                self.check(2, {(symbol, many): (0,) * length}, [], length == right)
        self.check(3, {(F, 2): (0,) * 9}, [], True)
        self.check(3, {(F, 2): (0,) * 8}, [], False)
        # Also of a table that no formula needs, and behind one that is right.
        self.check(2, {(P, 1): (1, 1), (Q, 1): (1,)}, ["p(a)"], False)
        self.check(2, {(P, 100): (1, 1)}, [], False)
        self.check(1, {(P, 100): (1,)}, [], True)

    def test_values_out_of_range(self):
        for symbol in (F, SKOLEM):
            for value, result in [(0, True), (1, True), (2, True), (3, False), (-1, False)]:
                self.check(3, {(symbol, 1): (0, value, 0)}, [], result)
        for symbol in (P, PART, ANSWER, (0, 0, 0)):
            for value, result in [(0, True), (1, True), (2, False), (-1, False)]:
                self.check(3, {(symbol, 1): (0, value, 0)}, [], result)
        self.check(1, {(A, 0): (1,)}, [], False)
        self.check(1, {(P, 0): (1,)}, [], True)

    def test_truth(self):
        world = World(2, {((0, 0, 0), 1): (0, 1)})
        self.assertIs(accepts_world(world, [("atom", TRUTH)]), True)
        self.assertIs(accepts_world(world, [("not", ("atom", TRUTH))]), False)
        self.assertIs(accepts_world(world, [("atom", ((0, 0, 0), ((A, ()),)))]), False)

    def test_against_the_meaning(self):
        source = random.Random(103)
        counts = [0, 0]
        for _ in range(400):
            told = [random_formula(source, 3) for _ in range(source.randrange(3))]
            world = random_world(source, uses_of(told), source.choice([1, 2, 3]))
            result = all(holds(formula, world) for formula in told)
            counts[result] += 1
            self.assertIs(accepts_world(world, told), result)
        self.assertGreater(min(counts), 50)


class FindTest(unittest.TestCase):
    def check(self, texts, size, tables):
        told = formulas(*texts)
        before = copy.deepcopy(told)
        found = find_world(told, size)
        self.assertEqual(told, before)
        self.assertIs(type(found), World)
        self.assertEqual((found.size, list(found.tables.items())), (size, list(tables.items())))
        self.assertIs(accepts_world(found, told), True)

    def check_none(self, texts, *sizes):
        for size in sizes:
            self.assertIsNone(find_world(formulas(*texts), size), size)

    def test_no_formulas(self):
        for size in (1, 2, 8):
            self.check([], size, {})

    def test_the_uses_in_their_order(self):
        self.check(["q(b) or p(a, f(b))"], 2, {
            (Q, 1): (0, 0), (B, 0): (0,), (P, 2): (0, 0, 0, 1), (A, 0): (1,), (F, 1): (1, 0)})
        self.check(["p(a)", "p(b)", "q(a)"], 1, {(P, 1): (1,), (A, 0): (0,), (B, 0): (0,), (Q, 1): (1,)})
        self.check(["p or p(a) or p(a, a)"], 1, {(P, 0): (0,), (P, 1): (0,), (A, 0): (0,), (P, 2): (1,)})

    def test_the_least_list_of_values(self):
        self.check(["p(a)"], 2, {(P, 1): (0, 1), (A, 0): (1,)})
        self.check(["a = a", "p(a)"], 2, {(A, 0): (0,), (P, 1): (1, 0)})
        self.check(["a != b"], 3, {(A, 0): (0,), (B, 0): (1,)})
        self.check(["b != a", "p(a)"], 3, {(B, 0): (0,), (A, 0): (1,), (P, 1): (0, 1, 0)})
        self.check(["all x. f(x) != x"], 3, {(F, 1): (1, 0, 0)})
        self.check(["all x. f(x) != x", "all x y. f(x) = f(y) implies x = y"], 3, {(F, 1): (1, 2, 0)})
        self.check(["some x. p(x)"], 4, {(P, 1): (0, 0, 0, 1)})
        self.check(["all x. some y. p(x, y)", "all x. not p(x, x)"], 3, {(P, 2): (0, 0, 1, 0, 0, 1, 0, 1, 0)})
        self.check(["p iff q", "p or q"], 1, {(P, 0): (1,), (Q, 0): (1,)})

    def test_no_such_world(self):
        self.check_none(["p(a)", "not p(a)"], 1, 2, 5, 8)
        self.check_none(["a != b"], 1)
        self.check_none(["some x y z. x != y and y != z and x != z"], 1, 2)
        self.check(["some x y z. x != y and y != z and x != z"], 3, {})
        self.check_none(["all x. x = a", "f(a) != a"], 1, 2, 3, 8)
        self.check_none(["all x. x = a"], 2, 3)
        self.check(["all x. x = a"], 1, {(A, 0): (0,)})
        # Functions that have an inverse on one side only need infinitely many individuals.
        self.check_none(["all x y. f(x) = f(y) implies x = y", "all x. f(x) != a"], 1, 2, 3, 4, 5)
        self.check_none(["p(a)"], 0, -1)
        self.check_none([], 0, -1)

    def test_truth_is_not_a_use(self):
        self.assertEqual(find_world([("atom", TRUTH)], 2).tables, {})
        self.assertIsNone(find_world([("not", ("atom", TRUTH))], 2))
        found = find_world([("atom", ((0, 0, 0), ((A, ()),)))], 2)
        self.assertEqual(found.tables, {((0, 0, 0), 1): (0, 1), (A, 0): (1,)})

    def test_symbols_that_are_made(self):
        term = (SKOLEM, ((A, ()),))
        found = find_world([("atom", (PART, (term,))), ("not", ("atom", (ANSWER, (term,))))], 2)
        self.assertEqual(list(found.tables.items()), [
            ((PART, 1), (0, 1)), ((SKOLEM, 1), (0, 1)), ((A, 0), (1,)), ((ANSWER, 1), (0, 0))])

    def test_a_variable_that_is_bound_again(self):
        inside = ("some", 0, ("not", ("atom", (P, (0,)))))
        found = find_world([("all", 0, ("or", ("atom", (P, (0,))), inside))], 2)
        self.assertEqual(found.tables, {(P, 1): (0, 0)})
        found = find_world([("some", 0, ("and", ("atom", (P, (0,))), inside))], 2)
        self.assertEqual(found.tables, {(P, 1): (0, 1)})

    def test_many_connectives(self):
        # Deep chains of iff and of implies.
        chain = "p(a)"
        for _ in range(14):
            chain = f"({chain}) iff q(a)"
        self.check([chain, "p(a)"], 1, {(P, 1): (1,), (A, 0): (0,), (Q, 1): (0,)})
        texts = [f"p{k}(a) implies p{k + 1}(a)" for k in range(30)]
        names = [(False, "a")] + [(True, f"p{k}") for k in range(31)]
        told = [parsed(text, names) for text in texts + ["p0(a)"]]
        self.assertIsNotNone(find_world(told, 3))
        self.assertIsNone(find_world(told + [parsed("not p30(a)", names)], 3))

    def test_groups(self):
        names = [(False, "m"), (False, "e"), (False, "i")]
        group = ["all x y z. m(m(x, y), z) = m(x, m(y, z))", "all x. m(e, x) = x", "all x. m(i(x), x) = e"]
        told = [parsed(text, names) for text in group]
        for size in range(1, 6):
            found = find_world(told, size)
            self.assertTrue(accepts_world(found, told))
            # The least group is the one of the sums, 4 being the exception.
            if size != 4:
                sums = tuple((k + n) % size for k in range(size) for n in range(size))
                self.assertEqual(found.tables[((2, 0, 0), 2)], sums)
        other = told + [("not", parsed("all x y. m(x, y) = m(y, x)", names))]
        for size in range(1, 5):
            self.assertIsNone(find_world(other, size))
        self.assertTrue(accepts_world(find_world(other, 6), other))

    def test_eight_individuals(self):
        told = formulas("all x. f(f(x)) = x", "all x. f(x) != x", "all x y. p(x, y) or p(y, x)")
        found = find_world(told, 8)
        self.assertTrue(accepts_world(found, told))
        self.assertEqual(found.tables[(F, 1)], (1, 0, 3, 2, 5, 4, 7, 6))

    def test_against_all_worlds_in_order(self):
        source = random.Random(104)
        counts = [0, 0]
        for _ in range(1500):
            told = [random_formula(source, source.randrange(5), names=source.choice([1, 2, 3]))
                    for _ in range(source.choice([1, 1, 2, 3]))]
            size = source.choice([1, 2, 2, 3])
            uses = uses_of(told)
            if ways(uses, size) > 3000:
                continue
            worlds = (World(size, tables) for tables in tables_for(uses, size))
            first = next((world for world in worlds if all(holds(formula, world) for formula in told)), None)
            found = find_world(told, size)
            counts[first is not None] += 1
            self.assertEqual(None if found is None else list(found.tables.items()),
                             None if first is None else list(first.tables.items()))
        self.assertGreater(min(counts), 100)
