import unittest

from lastproof.terms.substitutions import put
from lastproof.terms.terms import variables
from lastproof.unify.matching import match
from tests.samples import A, B, TRUTH, chain, f, g, p, q, random_terms


class MatchTest(unittest.TestCase):
    def test_a_variable_matches_anything(self):
        for term in (0, 5, A, f(0), p(1), TRUTH):
            self.assertEqual(match(0, term, {}), {0: term})

    def test_a_compound_matches_its_instances_only(self):
        self.assertEqual(match(f(0, g(1)), f(A, g(f(2))), {}), {0: A, 1: f(2)})
        self.assertEqual(match(A, A, {}), {})
        self.assertIsNone(match(A, B, {}))
        self.assertIsNone(match(f(0), g(0), {}))
        self.assertIsNone(match(f(0), f(0, 1), {}))
        self.assertIsNone(match(f(0, 1), f(0), {}))
        self.assertIsNone(match(f(), f(0), {}))
        self.assertIsNone(match(p(0), q(0), {}))
        self.assertIsNone(match(f(A), f(B), {}))

    def test_a_variable_of_the_term_is_not_replaced(self):
        self.assertIsNone(match(A, 0, {}))
        self.assertIsNone(match(f(0), 0, {}))
        self.assertIsNone(match(f(A), f(0), {}))
        self.assertIsNone(match(f(0, A), f(B, 1), {}))

    def test_a_repeated_variable_has_one_term(self):
        self.assertEqual(match(f(0, 0), f(g(A), g(A)), {}), {0: g(A)})
        self.assertIsNone(match(f(0, 0), f(A, B), {}))
        self.assertIsNone(match(f(0, 0), f(0, 1), {}))
        self.assertIsNone(match(f(0, g(0)), f(A, g(B)), {}))

    def test_variables_of_the_same_numbers_on_both_sides(self):
        self.assertEqual(match(0, f(0), {}), {0: f(0)})
        self.assertEqual(match(f(0, 1), f(1, 0), {}), {0: 1, 1: 0})
        self.assertEqual(match(f(0, 1), f(g(1), g(0)), {}), {0: g(1), 1: g(0)})
        self.assertEqual(match(0, 0, {}), {0: 0})
        self.assertIsNone(match(f(0, f(0)), f(f(0), 0), {}))

    def test_told_variables_that_fit(self):
        self.assertEqual(match(f(0, 1), f(A, B), {1: B}), {1: B, 0: A})
        self.assertEqual(match(0, f(0), {0: f(0)}), {0: f(0)})
        self.assertEqual(match(f(0), f(0), {0: 0}), {0: 0})

    def test_told_variables_that_do_not_fit(self):
        self.assertIsNone(match(f(0, 1), f(A, B), {1: A}))
        self.assertIsNone(match(0, 0, {0: 1}))
        self.assertIsNone(match(0, A, {0: 0}))
        self.assertIsNone(match(f(0), f(f(0)), {0: 0}))

    def test_told_variables_that_do_not_occur_in_the_pattern(self):
        self.assertEqual(list(match(f(0), f(A), {9: B, 3: 9}).items()), [(9, B), (3, 9), (0, A)])
        self.assertEqual(match(A, A, {0: B}), {0: B})
        self.assertIsNone(match(A, B, {0: B}))

    def test_the_order_of_the_result(self):
        self.assertEqual(list(match(f(3, g(1, 3), 2, 0), f(A, g(B, A), 4, 5), {})), [3, 1, 2, 0])
        told = {2: 4, 7: A, 3: A}
        expected = [(2, 4), (7, A), (3, A), (1, B), (0, 5)]
        self.assertEqual(list(match(f(3, g(1, 3), 2, 0), f(A, g(B, A), 4, 5), told).items()), expected)
        self.assertEqual(list(match(f(g(g(5)), 4), f(g(g(A)), B), {})), [5, 4])

    def test_told_stays_and_the_dict_is_new(self):
        told = {1: B}
        result = match(f(0, 1), f(A, B), told)
        self.assertEqual(told, {1: B})
        result[5] = A
        self.assertEqual(told, {1: B})
        self.assertIsNot(match(A, A, told), told)
        match(f(0, 1), f(A, A), told)
        self.assertEqual(told, {1: B})

    def test_instances_of_many_terms(self):
        substitution = {0: f(1), 1: 0, 2: A, 3: g(3, 3)}
        for term in random_terms(18, 300):
            result = match(term, put(term, substitution), {})
            self.assertEqual(list(result.items()), [(x, substitution[x]) for x in variables(term)])

    def test_many_pairs_of_terms(self):
        terms = random_terms(19, 90, depth=2, variables=2)
        for pattern in terms:
            for term in terms:
                result = match(pattern, term, {})
                if result is not None:
                    self.assertEqual(put(pattern, result), term)
                    self.assertEqual(list(result), variables(pattern))

    def test_deep_terms(self):
        self.assertEqual(match(chain(60, 0), chain(120, 0), {}), {0: chain(60, 0)})
        self.assertIsNone(match(chain(120, 0), chain(60, 0), {}))
