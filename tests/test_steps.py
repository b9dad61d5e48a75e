import copy
import random
import unittest

from lastproof.derivations.steps import check, conclude, refutes, resting
from lastproof.formulas.meaning import clause_holds
from lastproof.terms.literals import is_well_formed
from tests.formula_samples import random_world, uses_of_clauses
from tests.samples import A, ANSWER, B, INDIVIDUAL_SYMBOLS, PART, TRUTH, f, g, no, p, q, random_clause, random_term, yes

NOT_TRUTH = (False, TRUTH, TRUTH)


class GivenTest(unittest.TestCase):
    GIVEN = {3: [(yes(p(0)),), ()], 0: [(no(q()), (True, A, 0))], 5: []}

    def check(self, axiom, index, line):
        given = copy.deepcopy(self.GIVEN)
        self.assertEqual(conclude(given, [], ("given", axiom, index)), line)
        self.assertEqual(given, self.GIVEN)

    def test_clauses_that_are_given(self):
        self.check(3, 0, (yes(p(0)),))
        self.check(3, 1, ())
        self.check(0, 0, (no(q()), (True, A, 0)))

    def test_axioms_and_clauses_that_do_not_exist(self):
        self.check(3, 2, None)
        self.check(0, 1, None)
        self.check(5, 0, None)
        self.check(1, 0, None)
        self.check(4, 0, None)
        self.check(3, -1, None)
        self.assertIsNone(conclude({}, [], ("given", 0, 0)))

    def test_clauses_that_are_not_well_formed(self):
        for clause in [((True, p(0), q()),), ((True, TRUTH, p(0)),), ((True, A, TRUTH),), (yes(q()), (False, A, f(p(0))))]:
            self.assertIsNone(conclude({0: [clause]}, [], ("given", 0, 0)))


class InstanceTest(unittest.TestCase):
    LINES = [(yes(p(0, 1)), (False, 1, A)), ()]

    def check(self, i, r, line):
        lines = list(self.LINES)
        before = dict(r)
        self.assertEqual(conclude({}, lines, ("instance", i, r)), line)
        self.assertEqual((lines, r), (self.LINES, before))

    def test_instances(self):
        self.check(0, {}, self.LINES[0])
        self.check(0, {0: f(1), 1: 0}, (yes(p(f(1), 0)), (False, 0, A)))
        self.check(0, {1: f(1)}, (yes(p(0, f(1))), (False, f(1), A)))
        self.check(0, {0: ((3, 1, 2), (5,))}, (yes(p(((3, 1, 2), (5,)), 1)), (False, 1, A)))
        self.check(1, {}, ())
        self.check(1, {4: A}, ())

    def test_lines_that_do_not_exist(self):
        self.check(2, {}, None)
        self.check(-1, {}, None)
        self.assertIsNone(conclude({0: [()]}, [], ("instance", 0, {})))

    def test_terms_that_are_not_individual(self):
        for wrong in [TRUTH, p(), p(0), f(p()), f(0, f(TRUTH)), (PART, ()), (ANSWER, (0,)), g(A, (PART, ()))]:
            self.check(0, {0: wrong}, None)
            self.check(0, {0: A, 1: wrong}, None)
            # It does not matter whether the variable occurs.
            self.check(0, {7: wrong}, None)
            self.check(1, {7: wrong}, None)

    def test_a_line_that_is_not_well_formed(self):
        self.assertIsNone(conclude({}, [((True, p(0), q()),)], ("instance", 0, {})))


class CleanTest(unittest.TestCase):
    def test_clean(self):
        lines = [(NOT_TRUTH,), (yes(q()), no(q()), yes(q())), ()]
        self.assertEqual(conclude({}, lines, ("clean", 0)), ())
        self.assertEqual(conclude({}, lines, ("clean", 1)), (no(q()), yes(q())))
        self.assertEqual(conclude({}, lines, ("clean", 2)), ())
        self.assertIsNone(conclude({}, lines, ("clean", 3)))
        self.assertIsNone(conclude({}, lines, ("clean", -1)))
        self.assertIsNone(conclude({}, [], ("clean", 0)))
        self.assertEqual(lines, [(NOT_TRUTH,), (yes(q()), no(q()), yes(q())), ()])

    def test_a_line_that_is_not_well_formed(self):
        self.assertIsNone(conclude({}, [((True, p(0), q()),)], ("clean", 0)))
        self.assertEqual(conclude({}, [((False, A, TRUTH), (False, A, TRUTH))], ("clean", 0)), None)
        self.assertEqual(conclude({}, [((False, p(f(q())), p(f(q()))),)], ("clean", 0)), ())


class ResolveTest(unittest.TestCase):
    LINES = [(yes(q()), (False, f(0), f(1)), (False, A, A), (True, B, B)), (NOT_TRUTH,)]

    def check(self, i, r, literal, line):
        lines = list(self.LINES)
        before = dict(r)
        self.assertEqual(conclude({}, lines, ("resolve", i, r, literal)), line)
        self.assertEqual((lines, r), (self.LINES, before))

    def test_steps_that_hold(self):
        c = self.LINES[0]
        self.check(0, {}, 2, (c[0], c[1], c[3]))
        self.check(0, {0: 1}, 1, (c[0], c[2], c[3]))
        self.check(0, {0: A, 1: A}, 1, (c[0], c[2], c[3]))
        self.check(1, {}, 0, ())

    def test_steps_that_do_not_hold(self):
        self.check(0, {}, 1, None)
        self.check(0, {0: A}, 1, None)
        self.check(0, {}, 0, None)
        self.check(0, {}, 3, None)
        self.check(0, {}, 4, None)
        self.check(0, {}, -2, None)
        self.check(1, {}, 1, None)
        self.check(2, {}, 0, None)
        self.check(-1, {}, 0, None)
        self.check(1, {0: TRUTH}, 0, None)
        self.check(0, {0: A, 1: A, 2: p()}, 1, None)

    def test_a_line_that_is_not_well_formed(self):
        lines = [(NOT_TRUTH, (True, p(0), q()))]
        self.assertIsNone(conclude({}, lines, ("resolve", 0, {}, 0)))


class FactorTest(unittest.TestCase):
    LINES = [
        (yes(p(0)), yes(p(A)), no(p(A)), yes(q())),
        ((True, f(0), A), (True, B, f(A)), (True, f(A), g(0)), (False, f(A), f(A))),
    ]

    def check(self, i, r, first, first_side, second, second_side, line):
        lines = list(self.LINES)
        before = dict(r)
        step = ("factor", i, r, first, first_side, second, second_side)
        self.assertEqual(conclude({}, lines, step), line)
        self.assertEqual((lines, r), (self.LINES, before))

    def test_atoms(self):
        one, two, three, four = (yes(p(A)), yes(p(A)), no(p(A)), yes(q()))
        self.check(0, {0: A}, 0, 0, 1, 0, (NOT_TRUTH, two, three, four))
        self.check(0, {0: A}, 1, 0, 0, 0, (one, NOT_TRUTH, three, four))
        # The other sides are two atoms, but the literal of them is not well formed.
        self.check(0, {}, 0, 1, 1, 1, None)
        # TRUTH is on both right sides, and the other sides are atoms that are the same.
        self.check(0, {0: A}, 0, 1, 1, 1, None)
        self.check(0, {}, 3, 1, 0, 1, None)
        self.check(0, {}, 0, 0, 1, 0, None)

    def test_terms(self):
        r = {0: A}
        one, two, three, four = (True, f(A), A), (True, B, f(A)), (True, f(A), g(A)), (False, f(A), f(A))
        self.check(1, r, 0, 0, 1, 1, ((False, A, B), two, three, four))
        self.check(1, r, 1, 1, 0, 0, (one, (False, B, A), three, four))
        self.check(1, r, 0, 0, 2, 0, ((False, A, g(A)), two, three, four))
        self.check(1, r, 2, 0, 0, 0, (one, two, (False, g(A), A), four))
        self.check(1, {}, 1, 1, 2, 0, ((True, f(0), A), (False, B, g(0)), (True, f(A), g(0)), four))
        self.check(1, r, 0, 0, 1, 0, None)
        self.check(1, r, 0, 1, 1, 1, None)
        self.check(1, {}, 0, 0, 1, 1, None)

    def test_steps_that_do_not_hold(self):
        r = {0: A}
        self.check(1, r, 0, 0, 0, 0, None)
        self.check(1, r, 0, 0, 3, 0, None)
        self.check(1, r, 3, 0, 0, 0, None)
        self.check(0, r, 0, 0, 2, 0, None)
        self.check(0, r, 2, 0, 0, 0, None)
        self.check(1, r, 0, 0, 4, 0, None)
        self.check(1, r, 4, 0, 0, 0, None)
        self.check(1, r, -4, 0, 1, 1, None)
        self.check(1, r, 0, 0, -3, 1, None)
        self.check(2, r, 0, 0, 1, 1, None)
        self.check(1, r, 0, 0, 1, 2, None)
        self.check(1, r, 0, -1, 1, 1, None)
        self.check(1, {0: A, 9: TRUTH}, 0, 0, 1, 1, None)

    def test_other_sides_of_which_one_is_an_atom(self):
        lines = [((True, A, B), (True, A, TRUTH))]
        self.assertIsNone(conclude({}, lines, ("factor", 0, {}, 0, 0, 1, 0)))
        lines = [((True, A, TRUTH), (True, A, TRUTH))]
        self.assertIsNone(conclude({}, lines, ("factor", 0, {}, 0, 0, 1, 0)))
        lines = [((True, A, B), (True, A, B), (True, A, TRUTH))]
        self.assertIsNone(conclude({}, lines, ("factor", 0, {}, 0, 0, 1, 0)))
        lines = [((True, p(0), TRUTH), (True, A, TRUTH))]
        self.assertIsNone(conclude({}, lines, ("factor", 0, {}, 0, 1, 1, 1)))


class SuperposeTest(unittest.TestCase):
    LINES = [
        (no(p(f(f(0)))), (True, f(1), 0)),
        ((True, f(0), 0), yes(q())),
        (yes(p(0)), (False, A, B)),
        (no(p(A)),),
    ]

    def check(self, step, line):
        lines = list(self.LINES)
        before = copy.deepcopy(step)
        self.assertEqual(conclude({}, lines, ("superpose",) + step), line)
        self.assertEqual((lines, step), (self.LINES, before))

    def test_terms(self):
        q_0 = yes(q())
        self.check((0, {}, 0, 0, (0,), 1, {0: f(0)}, 0, 0), (no(p(f(0))), (True, f(1), 0), q_0))
        self.check((0, {}, 0, 0, (0, 0), 1, {}, 0, 0), (no(p(f(0))), (True, f(1), 0), q_0))
        self.check((0, {0: A}, 0, 0, (0, 0), 1, {0: A}, 0, 0), (no(p(f(A))), (True, f(1), A), q_0))
        self.check((0, {}, 0, 0, (0, 0), 1, {0: f(0)}, 0, 1), (no(p(f(f(f(0))))), (True, f(1), 0), q_0))
        self.check((0, {}, 1, 0, (), 1, {0: 1}, 0, 0), (no(p(f(f(0)))), (True, 1, 0), q_0))
        # A variable at the place.
        self.check((0, {}, 1, 1, (), 1, {}, 0, 1), (no(p(f(f(0)))), (True, f(1), f(0)), q_0))
        self.check((0, {}, 0, 0, (0, 0, 0), 1, {}, 0, 1), (no(p(f(f(f(0))))), (True, f(1), 0), q_0))

    def test_atoms(self):
        self.check((3, {}, 0, 0, (), 2, {0: A}, 0, 0), (NOT_TRUTH, (False, A, B)))
        self.check((2, {0: A}, 0, 0, (), 2, {0: A}, 0, 0), ((True, TRUTH, TRUTH), (False, A, B), (False, A, B)))
        self.check((0, {}, 0, 0, (), 2, {0: f(f(0))}, 0, 0), (NOT_TRUTH, (True, f(1), 0), (False, A, B)))
        self.check((2, {}, 0, 0, (), 1, {}, 1, 0), None)
        # TRUTH is put into the place of TRUTH, and an atom then stands on the right.
        self.check((3, {}, 0, 1, (), 2, {0: A}, 0, 1), None)

    def test_a_line_into_itself(self):
        self.check((1, {0: f(0)}, 0, 0, (0,), 1, {}, 0, 0), ((True, f(0), f(0)), yes(q()), yes(q())))
        self.check((1, {}, 1, 0, (), 1, {0: A}, 1, 0), ((True, f(0), 0), (True, TRUTH, TRUTH), (True, f(A), A)))

    def test_lines_literals_and_places_that_do_not_exist(self):
        good = (0, {}, 0, 0, (0, 0), 1, {}, 0, 0)
        self.assertIsNotNone(conclude({}, self.LINES, ("superpose",) + good))
        for k, wrong in [(0, 4), (0, -1), (2, 2), (2, -2), (3, 2), (3, -1), (4, (1,)), (4, (0, 1)), (4, (0, 0, 0, 0)),
                         (4, (-1, 0)), (4, (0, -1)), (5, 4), (5, -3), (7, 2), (7, -2), (8, 2), (8, -1)]:
            self.check(good[:k] + (wrong,) + good[k + 1:], None)

    def test_terms_that_are_not_equal(self):
        good = (0, {}, 0, 0, (0, 0), 1, {}, 0, 0)
        for k, wrong in [(1, {0: A}), (2, 1), (3, 1), (4, (0,)), (4, ()), (4, (0, 0, 0)), (6, {0: f(0)}), (7, 1), (8, 1)]:
            self.check(good[:k] + (wrong,) + good[k + 1:], None)

    def test_the_literal_of_the_other_line_is_positive(self):
        self.check((3, {}, 0, 0, (0,), 2, {}, 1, 0), None)
        self.check((3, {}, 0, 0, (), 3, {}, 0, 0), None)

    def test_both_sides_of_it_are_atoms_or_neither_is(self):
        for literal in [(True, A, TRUTH), (True, p(0), B), (True, TRUTH, A)]:
            lines = [(no(p(A)), no(p(0)), (False, A, A)), (literal,)]
            for k in range(3):
                for place in [(), (0,)]:
                    for by_side in (0, 1):
                        step = ("superpose", 0, {}, k, 0, place, 1, {}, 0, by_side)
                        self.assertIsNone(conclude({}, lines, step))
        lines = [(no(p(A)),), ((True, A, A),)]
        self.assertEqual(conclude({}, lines, ("superpose", 0, {}, 0, 0, (0,), 1, {}, 0, 0)), (no(p(A)),))
        # The line would be well formed, but one side is an atom and the other one is not.
        lines = [(no(q()),), ((True, q(), A),)]
        self.assertIsNone(conclude({}, lines, ("superpose", 0, {}, 0, 0, (), 1, {}, 0, 0)))
        lines = [((False, A, A),), ((True, A, TRUTH),)]
        self.assertIsNone(conclude({}, lines, ("superpose", 0, {}, 0, 1, (), 1, {}, 0, 0)))
        # The line would be well formed, but the literal that is taken has one side that is an atom.
        for lines, k, by_side in [([((False, q(), A),), ((True, q(), B),)], 0, 0), ([((False, q(), A),), ((True, B, q()),)], 0, 1),
                                  ([((False, A, TRUTH),), ((True, A, q()),)], 0, 0),
                                  ([((False, B, q()),), ((True, q(), A),)], 1, 0)]:
            self.assertIsNone(conclude({}, lines, ("superpose", 0, {}, 0, k, (), 1, {}, 0, by_side)))
        # Two atoms, neither of which is TRUTH.
        lines = [(no(q()),), ((True, q(), p(A)),)]
        self.assertEqual(conclude({}, lines, ("superpose", 0, {}, 0, 0, (), 1, {}, 0, 0)), (no(p(A)),))

    def test_substitutions_with_terms_that_are_not_individual(self):
        for wrong in [TRUTH, p(A), f(TRUTH), (PART, ())]:
            self.check((0, {5: wrong}, 0, 0, (0, 0), 1, {}, 0, 0), None)
            self.check((0, {}, 0, 0, (0, 0), 1, {5: wrong}, 0, 0), None)
            self.check((0, {1: wrong}, 0, 0, (0, 0), 1, {}, 0, 0), None)

    def test_a_line_that_is_not_well_formed(self):
        lines = [(no(p(A)), (True, p(0), q())), ((True, A, B),)]
        self.assertIsNone(conclude({}, lines, ("superpose", 0, {}, 0, 0, (0,), 1, {}, 0, 0)))
        # TRUTH in the place of an atom on the left is well formed, an atom in the place of TRUTH is not.
        lines = [(yes(q()),), (yes(q()),)]
        self.assertEqual(conclude({}, lines, ("superpose", 0, {}, 0, 0, (), 1, {}, 0, 0)), ((True, TRUTH, TRUTH),))
        self.assertIsNone(conclude({}, lines, ("superpose", 0, {}, 0, 1, (), 1, {}, 0, 1)))


GIVEN = {0: [(yes(p(0)),)], 1: [(no(p(A)),)], 4: [(), (yes(q()),)]}
REFUTATION = [("given", 0, 0), ("given", 1, 0), ("superpose", 1, {}, 0, 0, (), 0, {0: A}, 0, 0), ("clean", 2)]
LINES = [(yes(p(0)),), (no(p(A)),), (NOT_TRUTH,), ()]


class CheckTest(unittest.TestCase):
    def check(self, steps, lines, refuting):
        given, before = copy.deepcopy(GIVEN), copy.deepcopy(steps)
        self.assertEqual(check(given, steps), lines)
        self.assertIs(refutes(given, steps), refuting)
        self.assertEqual((given, steps), (GIVEN, before))

    def test_the_example_of_the_document(self):
        self.check(REFUTATION, LINES, True)
        for k in range(4):
            self.check(REFUTATION[:k], LINES[:k], False)

    def test_no_steps(self):
        self.check([], [], False)

    def test_one_step(self):
        self.check([("given", 4, 0)], [()], True)
        self.check([("given", 4, 1)], [(yes(q()),)], False)
        self.check([("given", 4, 2)], [], False)

    def test_the_own_line_and_later_lines(self):
        self.check([("clean", 0)], [], False)
        self.check([("instance", 0, {})], [], False)
        self.check(REFUTATION[:2] + [("clean", 2)], LINES[:2], False)
        self.check(REFUTATION[:2] + [("clean", 3), ("given", 4, 0)], LINES[:2], False)
        for i, j in [(2, 0), (3, 0), (1, 2), (1, 3)]:
            step = ("superpose", i, {}, 0, 0, (), j, {0: A}, 0, 0)
            self.check(REFUTATION[:2] + [step, ("given", 0, 0)], LINES[:2], False)

    def test_steps_behind_the_first_one_that_does_not_hold(self):
        self.check([("given", 9, 0)] + REFUTATION, [], False)
        self.check(REFUTATION + [("given", 9, 0)], LINES, False)
        self.check(REFUTATION + [("given", 9, 0), ("given", 4, 0)], LINES, False)
        self.check(REFUTATION[:2] + [("clean", 7)] + REFUTATION[2:], LINES[:2], False)

    def test_the_last_line_counts(self):
        self.check(REFUTATION + [("given", 4, 1)], LINES + [(yes(q()),)], False)
        self.check([("given", 4, 0), ("given", 4, 1)], [(), (yes(q()),)], False)

    def test_the_list_is_new(self):
        check(GIVEN, REFUTATION).clear()
        self.check(REFUTATION, LINES, True)
        self.assertIs(type(check(GIVEN, [])), list)

    def test_resting_for_every_count(self):
        steps = [("given", 3, 0), ("clean", 0), ("given", 1, 0), ("given", 3, 1), ("instance", 0, {0: A}), ("given", 0, 9)]
        expected = [[], [3], [3], [3, 1], [3, 1], [3, 1], [3, 1, 0], [3, 1, 0], [3, 1, 0]]
        for count, axioms in enumerate(expected):
            self.assertEqual(resting(steps, count), axioms)
        self.assertEqual(resting([], 0), [])
        self.assertEqual(resting([("clean", 0)], 1), [])
        self.assertEqual(len(steps), 6)

    def test_lines_hold_where_the_given_clauses_hold(self):
        source = random.Random(92)
        longer = 0
        for _ in range(150):
            given = {0: [random_clause(source, 1, 2, 2) for _ in range(3)], 1: [(yes(p(0)),), ((True, f(0), g(0)),)]}
            steps, lines = random_derivation(source, given, 12)
            self.assertEqual(check(given, steps), lines)
            self.assertTrue(all(is_well_formed(line) for line in lines))
            longer += len(steps) > 6
            if max([len(line) for line in lines]) > 6:
                continue
            clauses = [clause for axiom in given for clause in given[axiom]]
            for size in (1, 2):
                world = random_world(source, uses_of_clauses(clauses + lines), size)
                if all(clause_holds(clause, world) for clause in clauses):
                    self.assertTrue(all(clause_holds(line, world) for line in lines))
        self.assertGreater(longer, 80)


def random_step(source, many):
    def number():
        return source.randrange(3)

    def substitution():
        return {k: random_term(source, INDIVIDUAL_SYMBOLS, 2, 1) for k in range(source.randrange(3))}

    i, j = source.randrange(many), source.randrange(many)
    place = source.choice([(), (), (0,), (1,), (0, 0)])
    return source.choice([
        ("superpose", i, substitution(), number(), source.randrange(2), place, j, substitution(), number(), 0),
        ("resolve", i, substitution(), number()),
        ("factor", i, substitution(), number(), source.randrange(2), number(), source.randrange(2)),
        ("instance", i, substitution()), ("clean", i),
    ])


def random_derivation(source, given, many):
    steps = [("given", axiom, index) for axiom in given for index in range(len(given[axiom]))]
    lines = check(given, steps)
    for _ in range(300):
        step = random_step(source, len(lines))
        line = conclude(given, lines, step)
        if line is not None and len(steps) < many and len(line) < 8:
            steps.append(step)
            lines.append(line)
    return steps, lines
