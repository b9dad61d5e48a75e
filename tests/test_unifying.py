import random
import unittest

from lastproof.terms.substitutions import put
from lastproof.terms.terms import variables
from lastproof.unify.matching import match
from lastproof.unify.unifying import unify
from tests.samples import A, B, F, G, TRUTH, chain, f, g, p, q, random_term, random_terms


def naive_unify(pairs):
    """The textbook way: replace a variable everywhere as soon as it is known."""
    pairs, known = list(pairs), {}
    while pairs:
        s, t = pairs.pop(0)
        if s == t:
            continue
        if isinstance(t, int) and not isinstance(s, int):
            s, t = t, s
        if isinstance(s, int):
            if s in variables(t):
                return None
            pairs = [(put(u, {s: t}), put(v, {s: t})) for u, v in pairs]
            known = {key: put(term, {s: t}) for key, term in known.items()}
            known[s] = t
        elif s[0] != t[0] or len(s[1]) != len(t[1]):
            return None
        else:
            pairs += zip(s[1], t[1])
    return known


class UnifyTest(unittest.TestCase):
    def check(self, pairs):
        """Checks all that the document says of the result, if there is one."""
        result = unify(pairs)
        expected = naive_unify(pairs)
        if expected is None:
            self.assertIsNone(result, pairs)
            return
        self.assertIs(type(result), dict)
        used = [x for s, t in pairs for x in variables(s) + variables(t)]
        for s, t in pairs:
            self.assertEqual(put(s, result), put(t, result))
        for key, term in result.items():
            self.assertIn(key, used)
            for variable in variables(term):
                self.assertIn(variable, used)
                self.assertNotIn(variable, result)
        # Both are most general: each one is an instance of the other one.
        row = (F, tuple(dict.fromkeys(used)))
        self.assertIsNotNone(match(put(row, result), put(row, expected), {}))
        self.assertIsNotNone(match(put(row, expected), put(row, result), {}))

    def test_the_examples_of_the_interface(self):
        self.assertIsNone(unify([(0, f(0))]))
        self.assertEqual(unify([(f(0), f(A))]), {0: A})

    def test_the_empty_list(self):
        self.assertEqual(unify([]), {})

    def test_equal_terms_need_nothing(self):
        for term in (0, A, f(0, 1), p(0), TRUTH):
            self.assertEqual(unify([(term, term)]), {})

    def test_a_variable_and_a_term_in_either_order(self):
        for term in (A, f(1), p(A), f(1, 1), TRUTH):
            self.assertEqual(unify([(0, term)]), {0: term})
            self.assertEqual(unify([(term, 0)]), {0: term})

    def test_two_variables(self):
        self.assertIn(unify([(0, 1)]), [{0: 1}, {1: 0}])
        self.assertIn(unify([(0, 1), (1, 0), (0, 1)]), [{0: 1}, {1: 0}])

    def test_several_pairs(self):
        self.check([(0, f(1)), (1, g(2)), (2, A)])
        self.assertEqual(unify([(0, f(1)), (1, g(2)), (2, A)]), {0: f(g(A)), 1: g(A), 2: A})
        self.assertEqual(unify([(2, A), (1, g(2)), (0, f(1))]), {0: f(g(A)), 1: g(A), 2: A})
        self.assertIsNone(unify([(0, A), (0, B)]))
        self.assertIsNone(unify([(0, A), (1, B), (0, 1)]))
        self.assertIsNone(unify([(A, B), (0, 1)]))
        self.assertIsNone(unify([(0, 1), (A, B)]))

    def test_arguments(self):
        self.assertEqual(unify([(f(0, B), f(A, 1))]), {0: A, 1: B})
        self.assertIsNone(unify([(f(0, 0), f(A, B))]))
        self.assertEqual(unify([(f(0, 0), f(A, A))]), {0: A})

    def test_a_variable_in_a_term_that_contains_it(self):
        self.assertIsNone(unify([(f(0), 0)]))
        self.assertIsNone(unify([(0, g(A, f(1, 0)))]))
        self.assertIsNone(unify([(0, p(0))]))

    def test_a_variable_behind_other_variables(self):
        self.assertIsNone(unify([(0, f(1)), (1, f(0))]))
        self.assertIsNone(unify([(0, f(1)), (1, 2), (2, g(0))]))
        self.assertIsNone(unify([(f(0, 1), f(g(1), g(0)))]))
        self.assertIsNone(unify([(f(0, 1, 2), f(g(1), g(2), g(0)))]))
        self.assertIsNone(unify([(0, 1), (1, f(0))]))
        self.assertIsNone(unify([(f(0, 0), f(1, f(1)))]))
        self.assertIsNone(unify([(0, f(1)), (0, f(2)), (1, g(2))]))

    def test_different_symbols(self):
        self.assertIsNone(unify([(A, B)]))
        self.assertIsNone(unify([(f(0), g(0))]))
        self.assertIsNone(unify([(p(0), q(0))]))
        self.assertIsNone(unify([(p(), TRUTH)]))
        self.assertIsNone(unify([(((3, 0, 1), (0,)), ((3, 1, 0), (0,)))]))

    def test_different_numbers_of_arguments(self):
        self.assertIsNone(unify([(f(0), f(0, 1))]))
        self.assertIsNone(unify([(f(0, 1), f(0))]))
        self.assertIsNone(unify([(f(), f(0))]))
        self.assertIsNone(unify([(g(f(A), 0), g(f(A, A), 0))]))

    def test_the_list_of_pairs_stays(self):
        pairs = [(0, f(1)), (1, A)]
        unify(pairs)
        self.assertEqual(pairs, [(0, f(1)), (1, A)])
        failing = [(0, f(1)), (A, B)]
        unify(failing)
        self.assertEqual(failing, [(0, f(1)), (A, B)])

    def test_the_dict_is_new(self):
        unify([])[0] = A
        self.assertEqual(unify([]), {})

    def test_random_pairs(self):
        source = random.Random(16)
        found = 0
        for _ in range(3000):
            many = source.randrange(1, 4)
            pairs = [(random_term(source, [F, G], 4, 2), random_term(source, [F, G], 4, 2)) for _ in range(many)]
            self.check(pairs)
            found += unify(pairs) is not None
        self.assertGreater(found, 200)

    def test_a_term_with_a_more_general_one(self):
        for term in random_terms(17, 200, variables=3):
            self.check([(term, put(term, {0: f(5), 1: g(5, 6), 2: 6}))])

    def test_long_lists_of_variables(self):
        pairs = [(k, k + 1) for k in range(600)]
        for row in (pairs, pairs[::-1], pairs + [(600, A)], [(0, A)] + pairs):
            result = unify(row)
            self.assertEqual(len({put(k, result) for k in range(601)}), 1)

    def test_deep_terms(self):
        self.assertEqual(unify([(chain(120, 0), chain(120, A))]), {0: A})
        self.assertEqual(unify([(chain(60, 0), chain(120, 1))]), {0: chain(60, 1)})
        self.assertIsNone(unify([(chain(60, 0), chain(120, 0))]))
        self.assertEqual(unify([(k, f(k + 1)) for k in range(100)])[0], chain(100, 100))

    def test_terms_that_double(self):
        pairs = [(k, f(k + 1, k + 1)) for k in range(14)]
        for row in (pairs, pairs[::-1]):
            result = unify(row)
            self.assertEqual(put(0, result), put(f(1, 1), result))
            self.assertEqual(sorted(result), list(range(14)))
        self.assertIsNone(unify(pairs + [(14, f(0, 0))]))

    def test_variables_behind_which_others_occur_very_often(self):
        pairs = [(k, f(k - k % 2 + 2, k - k % 2 + 3)) for k in range(80)]
        for row in (pairs, pairs[::-1]):
            self.assertEqual(sorted(unify(row)), list(range(80)))
            self.assertIsNone(unify(row + [(81, g(0))]))
            self.assertIsNone(unify([(81, g(0))] + row))

    def test_variables_of_any_size(self):
        big = 10 ** 40
        self.assertEqual(unify([(f(big, 0), f(A, g(big)))]), {big: A, 0: g(A)})
