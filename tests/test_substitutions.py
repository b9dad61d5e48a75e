import unittest

from lastproof.terms.substitutions import put, put_clause, put_literal, shifted, shifted_clause
from tests.samples import A, B, TRUTH, chain, f, g, p, random_clauses, random_terms

BIG = 10 ** 40


class PutTest(unittest.TestCase):
    def test_every_key_is_replaced_everywhere(self):
        self.assertEqual(put(0, {0: A}), A)
        self.assertEqual(put(f(0, g(0, 1), 0), {0: g(A)}), f(g(A), g(g(A), 1), g(A)))

    def test_other_variables_and_constants_stay(self):
        self.assertEqual(put(f(0, 1, 2, A), {1: B}), f(0, B, 2, A))
        self.assertEqual(put(3, {1: B}), 3)
        self.assertEqual(put(A, {0: B}), A)
        self.assertEqual(put(f(), {0: B}), f())

    def test_the_empty_substitution(self):
        for term in random_terms(3, 50):
            self.assertEqual(put(term, {}), term)

    def test_all_at_the_same_time(self):
        self.assertEqual(put(f(0, 1, 0), {0: 1, 1: 0}), f(1, 0, 1))
        self.assertEqual(put(f(0, 1, 2), {0: 1, 1: 2, 2: 0}), f(1, 2, 0))

    def test_what_is_inserted_is_not_changed_again(self):
        self.assertEqual(put(f(0), {0: g(0)}), f(g(0)))
        self.assertEqual(put(f(0, 1), {0: g(1), 1: A}), f(g(1), A))
        self.assertEqual(put(f(0, 1), {1: g(0), 0: A}), f(A, g(0)))

    def test_a_variable_that_becomes_variable_zero(self):
        self.assertEqual(put(f(5), {5: 0}), f(0))
        self.assertEqual(put(5, {5: 0}), 0)

    def test_atoms_and_variables_of_any_size(self):
        self.assertEqual(put(p(BIG, f(BIG)), {BIG: A}), p(A, f(A)))

    def test_deep_terms(self):
        self.assertEqual(put(chain(120, 0), {0: g(1)}), chain(120, g(1)))
        self.assertEqual(put(chain(60, 0), {0: chain(60, 0)}), chain(120, 0))

    def test_the_substitution_stays(self):
        substitution = {0: f(1), 1: A}
        put(f(0, 1, 2), substitution)
        put_clause(((True, 0, 2),), substitution)
        self.assertEqual(list(substitution.items()), [(0, f(1)), (1, A)])

    def test_a_literal_on_both_sides(self):
        self.assertEqual(put_literal((True, f(0), 1), {0: A, 1: B}), (True, f(A), B))
        self.assertEqual(put_literal((False, 0, f(1)), {0: 1, 1: 0}), (False, 1, f(0)))
        self.assertEqual(put_literal((False, p(0), TRUTH), {0: A}), (False, p(A), TRUTH))

    def test_a_clause_in_all_literals(self):
        clause = ((True, f(0), 1), (False, p(1), TRUTH))
        self.assertEqual(put_clause(clause, {0: 1, 1: B}), ((True, f(1), B), (False, p(B), TRUTH)))
        self.assertEqual(put_clause((), {0: A}), ())

    def test_the_kinds_of_the_results(self):
        literal = put_literal((True, 0, f(1)), {0: A})
        self.assertIs(type(literal), tuple)
        self.assertIs(literal[0], True)
        self.assertIs(type(put_clause((literal,), {})), tuple)
        self.assertIs(type(put(f(0), {})[1]), tuple)


class ShiftedTest(unittest.TestCase):
    def test_terms(self):
        self.assertEqual(shifted(0, 5), 5)
        self.assertEqual(shifted(f(0, g(3), A), 2), f(2, g(5), A))
        self.assertEqual(shifted(f(0, 1), BIG), f(BIG, BIG + 1))
        self.assertEqual(shifted(f(0, 1), 0), f(0, 1))
        self.assertEqual(shifted(A, 3), A)
        self.assertEqual(shifted(chain(120, 1), 1), chain(120, 2))

    def test_clauses(self):
        clause = ((True, f(0), 1), (False, p(2), TRUTH))
        self.assertEqual(shifted_clause(clause, 3), ((True, f(3), 4), (False, p(5), TRUTH)))
        self.assertEqual(shifted_clause((), 3), ())

    def test_a_shift_is_an_instance(self):
        substitution = {k: k + 7 for k in range(4)}
        for clause in random_clauses(4, 50):
            self.assertEqual(shifted_clause(clause, 7), put_clause(clause, substitution))
