import itertools
import random
import unittest

from lastproof.order.multisets import clause_greater, is_greatest, is_greatest_alone, literal_greater
from lastproof.order.ordering import greater
from tests.samples import A, B, F, H, P, TRUTH, f, g, p, q, random_clauses


def is_same(first, second):
    return first[0] == second[0] and (first[1:] == second[1:] or first[1:] == second[:0:-1])


def naive_more(first, second, equal, exceeds):
    """The comparison of lists of the document, word by word."""
    left, right = list(first), list(second)
    for item in first:
        twins = [k for k, other in enumerate(right) if equal(item, other)]
        if twins:
            right.pop(twins[0])
            left.pop([k for k, other in enumerate(left) if equal(item, other)][0])
    return bool(left) and all(any(exceeds(x, y) for x in left) for y in right)


def naive_literal_greater(weights, first, second):
    def row(literal):
        return [literal[1], literal[2]] * (1 if literal[0] else 2)

    return naive_more(row(first), row(second), lambda s, t: s == t, lambda s, t: greater(weights, s, t))


def naive_clause_greater(weights, first, second):
    return naive_more(first, second, is_same, lambda s, t: naive_literal_greater(weights, s, t))


class LiteralsTest(unittest.TestCase):
    def check_less(self, weights, low, high):
        self.assertIs(literal_greater(weights, high, low), True)
        self.assertIs(literal_greater(weights, low, high), False)

    def check_neither(self, weights, first, second):
        self.assertIs(literal_greater(weights, first, second), False)
        self.assertIs(literal_greater(weights, second, first), False)

    def test_a_greater_side(self):
        self.check_less({}, (True, A, A), (True, A, B))
        self.check_less({}, (True, A, B), (True, f(A), A))
        self.check_less({}, (False, A, B), (True, f(A), A))
        self.check_less({}, (True, p(0), TRUTH), (True, q(0), TRUTH))

    def test_the_negative_literal_of_the_same_sides_is_greater(self):
        self.check_less({}, (True, A, B), (False, A, B))
        self.check_less({}, (True, p(0), TRUTH), (False, p(0), TRUTH))
        self.check_less({}, (True, 0, 1), (False, 1, 0))

    def test_a_negative_literal_has_each_side_twice(self):
        # A, A, B, B against H, B: what is left is A, A, B against H.
        self.check_less({}, (False, A, B), (True, H, B))
        # f(0), f(0), 0, 0 against f(0), g(0): one f(0) is left against g(0).
        self.check_less({}, (False, f(0), 0), (True, f(0), g(0)))

    def test_literals_that_are_the_same(self):
        for positive in (True, False):
            self.check_neither({}, (positive, A, f(0)), (positive, A, f(0)))
            self.check_neither({}, (positive, A, f(0)), (positive, f(0), A))

    def test_each_side_that_is_left_must_be_exceeded(self):
        self.check_neither({}, (True, f(0), A), (True, f(1), A))
        self.check_neither({}, (True, f(0), 1), (True, f(1), 0))
        self.check_less({}, (True, 0, 1), (True, f(0), f(1)))
        self.check_neither({}, (True, 0, 1), (True, f(0), g(0)))

    def test_weights(self):
        self.check_less({A[0]: 3}, (True, B, B), (True, A, B))
        self.check_less({P: 5}, (True, q(A), TRUTH), (True, p(0), TRUTH))

    def test_against_the_words_of_the_document(self):
        literals = [literal for clause in random_clauses(12, 60, depth=1, variables=2) for literal in clause][:90]
        literals += [(not positive, right, left) for positive, left, right in literals[:20]]
        for weights in ({}, {F: 2, A[0]: 3}):
            for first, second in itertools.product(literals, repeat=2):
                expected = naive_literal_greater(weights, first, second)
                self.assertIs(literal_greater(weights, first, second), expected, (first, second))


class ClausesTest(unittest.TestCase):
    low = (True, p(A), TRUTH)
    high = (True, q(A), TRUTH)

    def check_less(self, low, high):
        self.assertIs(clause_greater({}, high, low), True)
        self.assertIs(clause_greater({}, low, high), False)

    def check_neither(self, first, second):
        self.assertIs(clause_greater({}, first, second), False)
        self.assertIs(clause_greater({}, second, first), False)

    def test_the_empty_clause_is_least(self):
        self.check_neither((), ())
        self.check_less((), (self.low,))
        self.check_less((), ((True, 0, 1),))

    def test_repeated_literals(self):
        self.check_less((self.low,), (self.low, self.low))
        self.check_less((self.low, self.low, self.low), (self.high,))
        self.check_less((self.low, self.low, self.high), (self.high, self.high))
        self.check_neither((self.low, self.low), (self.low, self.low))

    def test_the_order_of_the_literals_does_not_matter(self):
        self.check_neither((self.low, self.high), (self.high, self.low))

    def test_the_same_literals_with_exchanged_sides_are_one(self):
        self.check_neither(((True, A, B), self.low), (self.low, (True, B, A)))
        self.check_less(((True, 0, 1),), ((True, 1, 0), self.low))
        self.check_less(((True, f(0), f(1)), self.low), ((True, f(1), f(0)), self.high))

    def test_the_sign_makes_a_difference(self):
        self.check_less(((True, 0, 1),), ((False, 0, 1),))
        self.check_neither(((False, p(0), TRUTH),), ((True, p(1), TRUTH),))

    def test_each_literal_that_is_left_must_be_exceeded(self):
        self.check_less((self.low, (True, A, A)), (self.high,))
        self.check_neither((self.low, (True, 0, 1)), (self.high,))

    def test_the_weights_are_used(self):
        self.assertIs(clause_greater({P: 3}, (self.low,), (self.high,)), True)

    def test_against_the_words_of_the_document(self):
        clauses = random_clauses(13, 40, depth=1, most=3, variables=2)
        source = random.Random(14)
        for clause in clauses[:15]:
            turned = [(positive, right, left) for positive, left, right in clause]
            source.shuffle(turned)
            clauses.append(tuple(turned) + clause[:1])
        for first, second in itertools.product(clauses, repeat=2):
            expected = naive_clause_greater({F: 2}, first, second)
            self.assertIs(clause_greater({F: 2}, first, second), expected, (first, second))


class GreatestTest(unittest.TestCase):
    def test_the_greatest_literal(self):
        clause = ((True, p(A), TRUTH), (True, q(A), TRUTH), (True, A, B))
        self.assertEqual([is_greatest({}, clause, k) for k in range(3)], [False, True, False])
        self.assertEqual([is_greatest_alone({}, clause, k) for k in range(3)], [False, True, False])

    def test_greatest_but_not_alone(self):
        clause = ((True, f(0), A), (True, A, B), (True, A, f(0)))
        self.assertEqual([is_greatest({}, clause, k) for k in range(3)], [True, False, True])
        self.assertEqual([is_greatest_alone({}, clause, k) for k in range(3)], [False, False, False])

    def test_repeated_literals(self):
        clause = ((True, p(0), TRUTH),) * 2
        for k in range(2):
            self.assertIs(is_greatest({}, clause, k), True)
            self.assertIs(is_greatest_alone({}, clause, k), False)

    def test_literals_that_cannot_be_compared(self):
        clause = ((True, p(0), TRUTH), (True, p(1), TRUTH))
        for k in range(2):
            self.assertIs(is_greatest({}, clause, k), True)
            self.assertIs(is_greatest_alone({}, clause, k), True)

    def test_a_single_literal(self):
        self.assertIs(is_greatest({}, ((False, 0, 1),), 0), True)
        self.assertIs(is_greatest_alone({}, ((False, 0, 1),), 0), True)

    def test_the_weights_are_used(self):
        clause = ((True, p(A), TRUTH), (True, q(A), TRUTH))
        self.assertIs(is_greatest({P: 2}, clause, 0), True)
        self.assertIs(is_greatest_alone({P: 2}, clause, 0), True)
        self.assertIs(is_greatest({P: 2}, clause, 1), False)

    def test_against_the_words_of_the_document(self):
        for clause in random_clauses(15, 150, depth=1, variables=2):
            clause = clause + clause[:1]
            for k, literal in enumerate(clause):
                greatest = not any(naive_literal_greater({}, other, literal) for other in clause)
                twins = [i for i, other in enumerate(clause) if i != k and is_same(other, literal)]
                self.assertIs(is_greatest({}, clause, k), greatest)
                self.assertIs(is_greatest_alone({}, clause, k), greatest and not twins)
