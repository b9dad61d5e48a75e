import unittest

from lastproof.order.weights import clause_weight, literal_weight, symbol_weight, term_weight
from lastproof.terms.literals import clause_size
from tests.samples import A, B, F, G, H, P, PART, SKOLEM, TRUTH, chain, f, g, p, random_clauses

BIG = 10 ** 40
WEIGHTS = {F: 3, A[0]: 5, P: 7}


class WeightsTest(unittest.TestCase):
    def test_symbols(self):
        self.assertEqual(symbol_weight({}, F), 1)
        self.assertEqual(symbol_weight(WEIGHTS, F), 3)
        self.assertEqual(symbol_weight(WEIGHTS, A[0]), 5)
        self.assertEqual(symbol_weight(WEIGHTS, G), 1)
        self.assertEqual(symbol_weight(WEIGHTS, (0, 0, 0)), 1)
        self.assertEqual(symbol_weight({SKOLEM: 4, PART: 6}, SKOLEM), 4)
        self.assertEqual(symbol_weight({SKOLEM: 4, PART: 6}, PART), 6)
        self.assertEqual(symbol_weight({F: BIG}, F), BIG)

    def test_terms(self):
        self.assertEqual(term_weight({}, 0), 1)
        self.assertEqual(term_weight(WEIGHTS, BIG), 1)
        self.assertEqual(term_weight(WEIGHTS, TRUTH), 1)
        self.assertEqual(term_weight(WEIGHTS, A), 5)
        self.assertEqual(term_weight(WEIGHTS, f(0, 0, A, f(B), H)), 3 + 1 + 1 + 5 + 3 + 1 + 1)
        self.assertEqual(term_weight(WEIGHTS, g(g(A))), 7)
        self.assertEqual(term_weight(WEIGHTS, f(A, A)), 13)
        self.assertEqual(term_weight({F: BIG}, f(f(0))), 2 * BIG + 1)

    def test_one_symbol_with_different_numbers_of_arguments(self):
        self.assertEqual(term_weight(WEIGHTS, f(f(), f(f()))), 12)

    def test_literals_with_truth(self):
        self.assertEqual(literal_weight({}, (True, p(0), TRUTH)), 3)
        self.assertEqual(literal_weight(WEIGHTS, (False, p(A), TRUTH)), 13)
        self.assertEqual(literal_weight(WEIGHTS, (True, A, f(0))), 9)
        self.assertEqual(literal_weight(WEIGHTS, (False, f(0), A)), 9)

    def test_clauses(self):
        self.assertEqual(clause_weight(WEIGHTS, ()), 0)
        self.assertEqual(clause_weight(WEIGHTS, ((True, A, 0), (False, p(), TRUTH), (True, A, 0))), 20)

    def test_without_weights_the_weight_is_the_size(self):
        for clause in random_clauses(9, 100):
            self.assertEqual(clause_weight({}, clause), clause_size(clause))

    def test_the_dict_stays(self):
        weights = dict(WEIGHTS)
        clause_weight(weights, ((True, f(g(0), A), B), (False, p(H), TRUTH)))
        symbol_weight(weights, G)
        self.assertEqual(list(weights.items()), list(WEIGHTS.items()))

    def test_deep_terms(self):
        self.assertEqual(term_weight(WEIGHTS, chain(120, A)), 365)
