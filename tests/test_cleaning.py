import random
import unittest

from lastproof.formulas.meaning import clause_holds
from lastproof.simplify.cleaning import always_holds, cleaned
from tests.formula_samples import random_world, uses_of_clauses
from tests.plain_conclusions import naive_always, naive_cleaned
from tests.samples import A, B, TRUTH, f, p, q, random_clause

EQ, SWAPPED = (True, A, f(0)), (True, f(0), A)
NE, SWAPPED_NE = (False, A, f(0)), (False, f(0), A)
P, NOT_P = (True, p(0), TRUTH), (False, p(0), TRUTH)
Q = (True, q(), TRUTH)


def crowded_clause(source):
    """A clause with literals that are the same, opposites, and equal sides."""
    sides = [A, B, f(0), 0, 1]
    literals = []
    for _ in range(source.randrange(6)):
        if source.random() < 0.6:
            literals.append((source.random() < 0.5, source.choice(sides), source.choice(sides)))
        else:
            literals.append((source.random() < 0.5, source.choice([p(0), q(), TRUTH]), TRUTH))
    return tuple(literals)


class CleanedTest(unittest.TestCase):
    def test_clauses_that_stay(self):
        for clause in [(), (P,), (P, NOT_P), (EQ, NE), (NE, Q, P), ((True, A, A),), (P, (True, p(1), TRUTH))]:
            self.assertEqual(cleaned(clause), clause)

    def test_negative_literals_with_equal_sides(self):
        self.assertEqual(cleaned(((False, A, A),)), ())
        self.assertEqual(cleaned(((False, 0, 0), P, (False, TRUTH, TRUTH), (False, f(1), f(1)))), (P,))
        self.assertEqual(cleaned(((True, 0, 0), (True, TRUTH, TRUTH))), ((True, 0, 0), (True, TRUTH, TRUTH)))
        self.assertEqual(cleaned(((False, 0, 1), (False, f(0), f(1)))), ((False, 0, 1), (False, f(0), f(1))))

    def test_of_literals_that_are_the_same_the_last_one_stays(self):
        self.assertEqual(cleaned((P, Q, P)), (Q, P))
        self.assertEqual(cleaned((P, P, P)), (P,))
        self.assertEqual(cleaned((P, Q, Q, P)), (Q, P))
        self.assertEqual(cleaned((NOT_P, P, NOT_P)), (P, NOT_P))

    def test_exchanged_sides(self):
        self.assertEqual(cleaned((EQ, SWAPPED)), (SWAPPED,))
        self.assertEqual(cleaned((SWAPPED, P, EQ)), (P, EQ))
        self.assertEqual(cleaned((NE, SWAPPED_NE, Q)), (SWAPPED_NE, Q))
        self.assertEqual(cleaned((NE, SWAPPED)), (NE, SWAPPED))

    def test_variables_are_not_renumbered(self):
        self.assertEqual(cleaned(((False, 3, 3), (True, 7, 3))), ((True, 7, 3),))

    def test_against_a_plain_restatement(self):
        source = random.Random(73)
        for _ in range(2000):
            clause = crowded_clause(source)
            self.assertEqual(cleaned(clause), naive_cleaned(clause))
            self.assertIs(type(cleaned(clause)), tuple)
            self.assertEqual(cleaned(cleaned(clause)), cleaned(clause))

    def test_the_cleaned_clause_means_the_same(self):
        source = random.Random(74)
        for _ in range(300):
            clause = random_clause(source, depth=1) + crowded_clause(source)
            world = random_world(source, uses_of_clauses([clause]), 2)
            if len(clause) < 7:
                self.assertEqual(clause_holds(cleaned(clause), world), clause_holds(clause, world))


class AlwaysHoldsTest(unittest.TestCase):
    def test_clauses_that_may_not_hold(self):
        for clause in [(), (P,), (P, Q), (P, P), (EQ, SWAPPED), ((False, A, A),), (P, (False, p(1), TRUTH)),
                       ((True, 0, 1),), ((False, TRUTH, TRUTH),)]:
            self.assertIsNone(always_holds(clause))

    def test_equal_sides(self):
        self.assertEqual(always_holds(((True, A, A),)), (0, 0))
        self.assertEqual(always_holds((P, (True, 0, 0))), (1, 1))
        self.assertEqual(always_holds((P, (True, TRUTH, TRUTH), (True, A, A))), (1, 1))

    def test_opposite_literals(self):
        self.assertEqual(always_holds((P, NOT_P)), (0, 1))
        self.assertEqual(always_holds((NOT_P, Q, P)), (0, 2))
        self.assertEqual(always_holds((Q, NE, P, EQ)), (1, 3))
        self.assertEqual(always_holds((EQ, SWAPPED_NE)), (0, 1))
        self.assertEqual(always_holds((SWAPPED_NE, EQ)), (0, 1))

    def test_the_first_pair(self):
        same = (True, A, A)
        self.assertEqual(always_holds((P, NOT_P, same)), (0, 1))
        self.assertEqual(always_holds((P, same, NOT_P)), (0, 2))
        self.assertEqual(always_holds((Q, same, P, NOT_P)), (1, 1))
        self.assertEqual(always_holds((Q, P, same, NOT_P, NOT_P)), (1, 3))
        self.assertEqual(always_holds((P, EQ, NE, NOT_P)), (0, 3))
        self.assertEqual(always_holds((same, (False, A, A))), (0, 0))
        self.assertEqual(always_holds(((False, A, A), same)), (0, 1))

    def test_against_a_plain_restatement(self):
        source = random.Random(75)
        for _ in range(2000):
            clause = crowded_clause(source)
            self.assertEqual(always_holds(clause), naive_always(clause))

    def test_such_clauses_hold_in_every_world(self):
        source = random.Random(76)
        for _ in range(300):
            clause = crowded_clause(source)
            if always_holds(clause) is not None:
                self.assertTrue(clause_holds(clause, random_world(source, uses_of_clauses([clause]), 2)))
