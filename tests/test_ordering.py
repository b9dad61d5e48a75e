import itertools
import unittest

from lastproof.order.ordering import compare, greater
from tests.samples import A, B, F, G, H, P, TRUTH, chain, f, g, p, q, random_terms

HEAVY_H = {H[0]: 2}


def weigh(weights, term):
    if isinstance(term, int):
        return 1
    return weights.get(term[0], 1) + sum(weigh(weights, argument) for argument in term[1])


def leaves(term):
    return [term] if isinstance(term, int) else [leaf for argument in term[1] for leaf in leaves(argument)]


def naive_greater(weights, s, t):
    """The rule of the document, word by word."""
    if isinstance(s, int):
        return False
    if any(leaves(t).count(x) > leaves(s).count(x) for x in leaves(t)):
        return False
    if weigh(weights, s) != weigh(weights, t):
        return weigh(weights, s) > weigh(weights, t)
    if isinstance(t, int):
        return False
    if not t[1]:
        return bool(s[1]) or t[0] < s[0]
    if not s[1]:
        return False
    head_s, head_t = (s[0], s[1][:-1]), (t[0], t[1][:-1])
    if head_s != head_t:
        return naive_greater(weights, head_s, head_t)
    return naive_greater(weights, s[1][-1], t[1][-1])


class ExamplesTest(unittest.TestCase):
    def check_less(self, weights, low, high):
        self.assertIs(greater(weights, high, low), True)
        self.assertIs(greater(weights, low, high), False)
        self.assertEqual(compare(weights, high, low), "greater")
        self.assertEqual(compare(weights, low, high), "less")

    def check_none(self, weights, first, second):
        for s, t in [(first, second), (second, first)]:
            self.assertIs(greater(weights, s, t), False)
            self.assertIsNone(compare(weights, s, t))

    def test_the_examples_of_the_document(self):
        self.check_less(HEAVY_H, f(A), g(A))
        self.check_less(HEAVY_H, g(A), f(H))
        self.check_less(HEAVY_H, f(B, A), g(A, B))

    def test_the_example_of_the_interface(self):
        self.assertEqual(compare({}, f(B, A), g(A, B)), "less")

    def test_the_heavier_term_is_greater(self):
        self.check_less({}, g(B), f(f(A)))
        self.check_less({F: 3}, g(g(A)), f(A))
        self.check_less({A[0]: 5}, H, A)

    def test_arguments_against_a_constant_of_equal_weight(self):
        self.check_less({H[0]: 2}, H, f(A))
        self.check_less({H[0]: 3}, H, f(A, A))
        self.check_less({H[0]: 2}, H, f(0))

    def test_constants_by_their_symbols(self):
        self.check_less({}, A, B)
        self.check_less({}, TRUTH, A)
        self.check_less({}, (P, ()), A)
        self.check_less({}, ((3, 1, 9), ()), ((3, 2, 0), ()))
        self.check_less({}, ((4, 2, 1), ()), ((4, 2, 3), ()))

    def test_equal_weights_and_different_heads(self):
        self.check_less({}, f(A, B), f(B, A))
        self.check_less({}, f(A, A, B), f(A, B, A))
        self.check_less({}, f(B), g(A))
        self.check_less({}, f(f(A), B), f(g(A), A))

    def test_the_heads_are_terms_of_their_own(self):
        # The head of the second term is the constant g, the one of the first term is heavier.
        self.check_less({}, g(f(A)), f(A, A))
        # The heads have equal weights, but a variable occurs more often in the head of the lesser term.
        self.check_none({}, f(0, 1), f(1, 0))
        self.check_none({}, f(0, A), g(A, 0))
        self.check_less({}, f(A, 0), g(0, A))
        self.check_less({}, f(0, A), g(0, A))

    def test_equal_heads(self):
        self.check_less({}, f(A), f(B))
        self.check_less({}, f(B, A), f(B, B))
        self.check_less({}, f(0, f(A)), f(0, g(A)))
        self.check_none({}, f(0), f(1))

    def test_a_variable_that_occurs_more_often_in_the_lesser_term(self):
        self.check_none({}, f(0, 0), g(g(g(0))))
        self.check_none({}, 1, f(0))
        self.check_none({}, f(0, 1), f(0, f(0)))
        self.check_none({}, 0, A)
        self.check_none({H[0]: 100}, 0, H)
        self.check_less({}, f(0, 0), f(0, f(0)))

    def test_a_variable_against_anything(self):
        self.check_none({}, 0, 1)
        self.check_less({}, 0, f(0))
        self.check_less({}, 0, f(A, 0))
        self.check_less({}, 0, chain(120, 0))
        self.check_none({}, 0, f(A))

    def test_equal_terms(self):
        for term in (0, 7, A, f(0), g(A, f(1)), TRUTH, p(0)):
            self.assertIs(greater({}, term, term), False)
            self.assertEqual(compare({}, term, term), "same")

    def test_atoms(self):
        self.check_less({}, TRUTH, p())
        self.check_less({}, TRUTH, p(0))
        self.check_less({}, p(0), q(0))
        self.check_less({P: 2}, q(0), p(0))
        self.check_less({}, p(A), p(B))
        self.check_less({}, ((4, 0, 0), (0,)), ((4, 0, 1), (0,)))
        self.check_none({}, p(0), p(1))

    def test_one_symbol_with_different_numbers_of_arguments(self):
        self.check_less({}, f(f(A)), f(A, A))
        self.check_less({}, f(), f(A))
        self.check_less({}, f(A, f(B)), f(A, A, B))

    def test_deep_terms_with_many_arguments(self):
        def nested(end):
            term = end
            for _ in range(60):
                term = f(term, *([A] * 40))
            return term

        self.check_less({}, nested(A), nested(B))

    def test_a_hundred_arguments(self):
        row = [A] * 99
        self.check_less({}, f(*row, A), f(*row, B))
        self.check_less({}, f(A, *row), f(B, *row))
        self.check_less({}, f(A, *row, B), f(B, *row, A))

    def test_the_weights_stay(self):
        weights = {H[0]: 2}
        compare(weights, f(H, A), g(A, H))
        self.assertEqual(weights, {H[0]: 2})


class RuleTest(unittest.TestCase):
    def test_against_the_words_of_the_document(self):
        terms = random_terms(10, 110, variables=2, depth=2)
        for weights in ({}, {F: 2, A[0]: 3}, {G: 3, P: 2, (3, 3, 0): 2}):
            for s, t in itertools.product(terms, repeat=2):
                expected = naive_greater(weights, s, t)
                self.assertIs(greater(weights, s, t), expected, (s, t))
                if s == t:
                    word = "same"
                elif expected:
                    word = "greater"
                else:
                    word = "less" if naive_greater(weights, t, s) else None
                self.assertEqual(compare(weights, s, t), word)

    def test_small_terms_of_few_symbols(self):
        leaves_used = [0, 1, A, B, H]
        terms = leaves_used + [(symbol, (s,)) for symbol in (F, G) for s in leaves_used]
        terms += [(symbol, (s, t)) for symbol in (F, G) for s in leaves_used for t in leaves_used]
        for s, t in itertools.product(terms, repeat=2):
            self.assertIs(greater(HEAVY_H, s, t), naive_greater(HEAVY_H, s, t), (s, t))

    def test_the_order_is_total_without_variables(self):
        terms = random_terms(11, 60, variables=0, depth=2)
        for s, t in itertools.product(terms, repeat=2):
            self.assertIn(compare({G: 2}, s, t), ["same"] if s == t else ["greater", "less"])
