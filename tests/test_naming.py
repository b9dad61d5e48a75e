import random
import unittest

from lastproof.clauses.naming import named
from lastproof.formulas.formulas import free_variables
from lastproof.formulas.meaning import holds, uses_of
from lastproof.formulas.worlds import World
from tests.formula_samples import parsed, random_formula, random_world, tables_for, ways


def atom(symbol, *arguments):
    return ("atom", (symbol, arguments))


def name(k, *arguments):
    return atom((4, 7, k), *arguments)


P, Q, R, S = [atom((1, n, 0)) for n in range(4)]
AND, OR = ("and", P, Q), ("or", P, Q)


def is_plain(formula):
    while formula[0] == "not":
        formula = formula[1]
    return formula[0] in ("atom", "equal")


def iff_sides(formula):
    if formula[0] in ("atom", "equal"):
        return []
    parts = [part for part in formula[1:] if isinstance(part, tuple)]
    found = [side for part in parts for side in iff_sides(part)]
    return found + (list(formula[1:]) if formula[0] == "iff" else [])


class NamedTest(unittest.TestCase):
    def check(self, formula, result, made):
        self.assertEqual(named(7, formula), (result, made))

    def test_formulas_without_iff_stay(self):
        for formula in [P, ("equal", 0, 1), ("not", AND), ("implies", OR, ("not", ("not", P))), ("all", 0, AND),
                        ("some", 3, ("and", P, ("or", Q, R)))]:
            self.check(formula, [formula], 0)

    def test_sides_that_need_no_names(self):
        equal = ("equal", 1, 0)
        sides = [P, equal, ("not", P), ("not", equal), ("not", ("not", P)), ("not", ("not", ("not", equal)))]
        for left in sides:
            for right in sides:
                formula = ("iff", left, right)
                self.check(formula, [formula], 0)
                self.check(("not", ("all", 0, formula)), [("not", ("all", 0, formula))], 0)

    def test_sides_that_need_names(self):
        for side in [AND, OR, ("implies", P, Q), ("all", 0, P), ("some", 0, P), ("not", AND), ("not", ("not", OR)),
                     ("not", ("all", 0, P))]:
            self.check(("iff", side, R), [("iff", name(0), R), ("iff", name(0), side)], 1)
            self.check(("iff", R, side), [("iff", R, name(0)), ("iff", name(0), side)], 1)
            self.check(("iff", side, OR),
                       [("iff", name(0), name(1)), ("iff", name(0), side), ("iff", name(1), OR)], 2)

    def test_an_iff_inside_on_the_left(self):
        inner = ("iff", AND, R)
        self.check(("iff", inner, S), [
            ("iff", name(1), S), ("iff", name(0), AND), ("iff", name(1), ("iff", name(0), R))], 2)

    def test_an_iff_inside_on_the_right(self):
        inner = ("iff", R, AND)
        self.check(("iff", S, inner), [
            ("iff", S, name(1)), ("iff", name(0), AND), ("iff", name(1), ("iff", R, name(0)))], 2)

    def test_both_sides_are_traversed_before_the_left_one_is_named(self):
        formula = ("iff", ("iff", AND, P), ("iff", Q, OR))
        self.check(formula, [
            ("iff", name(2), name(3)), ("iff", name(0), AND), ("iff", name(1), OR),
            ("iff", name(2), ("iff", name(0), P)), ("iff", name(3), ("iff", Q, name(1)))], 4)

    def test_an_iff_of_atoms_inside_of_an_iff_is_named(self):
        inner = ("iff", P, Q)
        self.check(("iff", inner, ("not", inner)), [
            ("iff", name(0), name(1)), ("iff", name(0), inner), ("iff", name(1), ("not", inner))], 2)

    def test_an_iff_inside_of_other_formulas(self):
        self.check(("and", ("iff", P, AND), ("not", ("or", ("iff", OR, Q), R))), [
            ("and", ("iff", P, name(0)), ("not", ("or", ("iff", name(1), Q), R))),
            ("iff", name(0), AND), ("iff", name(1), OR)], 2)
        self.check(("implies", ("iff", P, AND), ("iff", P, OR)), [
            ("implies", ("iff", P, name(0)), ("iff", P, name(1))), ("iff", name(0), AND), ("iff", name(1), OR)], 2)

    def test_the_variables_of_a_side_in_their_order(self):
        p = atom((1, 0, 0), 5, 2)
        q = atom((1, 1, 0), 2, 9)
        side = ("or", p, q)
        atom_0 = name(0, 5, 2, 9)
        self.check(("iff", side, R), [
            ("iff", atom_0, R), ("all", 5, ("all", 2, ("all", 9, ("iff", atom_0, side))))], 1)
        bound = ("and", ("all", 2, p), q)
        atom_1 = name(0, 5, 2, 9)
        self.check(("all", 5, ("iff", R, bound)), [
            ("all", 5, ("iff", R, atom_1)), ("all", 5, ("all", 2, ("all", 9, ("iff", atom_1, bound))))], 1)
        self.check(("iff", ("some", 5, p), R), [
            ("iff", name(0, 2), R), ("all", 2, ("iff", name(0, 2), ("some", 5, p)))], 1)

    def test_variables_inside_of_sides_that_are_named_themselves(self):
        p = atom((1, 0, 0), 1)
        q = atom((1, 1, 0), 0)
        inner = ("iff", ("and", p, q), p)
        changed = ("iff", name(0, 1, 0), p)
        self.check(("all", 0, ("some", 1, ("iff", inner, q))), [
            ("all", 0, ("some", 1, ("iff", name(1, 1, 0), q))),
            ("all", 1, ("all", 0, ("iff", name(0, 1, 0), ("and", p, q)))),
            ("all", 1, ("all", 0, ("iff", name(1, 1, 0), changed)))], 2)

    def test_a_side_stays_as_it_stands_with_its_quantifiers(self):
        formula = parsed("all x. p(x) iff (some y. q(x, y))")
        inside = formula[2][2]
        self.check(formula, [
            ("all", 0, ("iff", formula[2][1], name(0, 0))), ("all", 0, ("iff", name(0, 0), inside))], 1)

    def test_the_number_is_in_the_names(self):
        self.assertEqual(named(0, ("iff", AND, R))[0][0], ("iff", atom((4, 0, 0)), R))
        self.assertEqual(named(123, ("iff", AND, R))[0][0], ("iff", atom((4, 123, 0)), R))

    def test_all_sides_are_short_afterwards_and_no_variable_is_free(self):
        source = random.Random(56)
        for _ in range(300):
            formula = random_formula(source, 5)
            formulas, made = named(3, formula)
            self.assertEqual(len(formulas), made + 1)
            for k, one in enumerate(formulas):
                self.assertEqual(free_variables(one), [])
                sides = iff_sides(one)
                if k > 0:
                    while one[0] == "all":
                        one = one[2]
                    self.assertEqual(one[1][1][0], (4, 3, k - 1))
                    self.assertFalse(is_plain(one[2]))
                    sides.remove(one[2])
                self.assertTrue(all(is_plain(side) for side in sides))

    def test_the_formulas_mean_the_same(self):
        source = random.Random(57)
        checked = 0
        for _ in range(500):
            formula = random_formula(source, 4, terms=False)
            formulas, made = named(3, formula)
            uses = uses_of([formula])
            new = [use for use in uses_of(formulas) if use not in uses]
            if made == 0 or ways(new, 2) > 300:
                continue
            checked += 1
            world = random_world(source, uses + [((2, 9, 0), 0)], 2)
            results = [all(holds(one, World(2, {**world.tables, **tables})) for one in formulas)
                       for tables in tables_for(new, 2)]
            self.assertEqual(any(results), holds(formula, world))
            self.assertLessEqual(sum(results), 1)
        self.assertGreater(checked, 40)

    def test_deep_formulas(self):
        formula = ("iff", AND, P)
        for _ in range(250):
            formula = ("not", formula)
        self.assertEqual(named(7, formula)[1], 1)

    def test_the_list_is_new(self):
        named(7, P)[0].clear()
        self.check(P, [P], 0)
        self.assertIs(type(named(7, P)), tuple)
        self.assertIs(type(named(7, P)[0]), list)
