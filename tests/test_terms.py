import unittest

from lastproof.terms.terms import (
    depth, is_atom, is_atomic, is_individual, is_variable, occurrences, size, variables,
)
from tests.samples import A, ANSWER, B, F, P, PART, SKOLEM, TRUTH, chain, f, g, p, q, random_terms

BIG = 10 ** 40
TRUTH_WITH_ARGUMENT = ((0, 0, 0), (0,))


def naive_size(term):
    return 1 if isinstance(term, int) else 1 + sum(map(naive_size, term[1]))


def naive_depth(term):
    if isinstance(term, int) or not term[1]:
        return 0
    return 1 + max(map(naive_depth, term[1]))


def leaves(term):
    """The variables from left to right with repetitions."""
    return [term] if isinstance(term, int) else [leaf for argument in term[1] for leaf in leaves(argument)]


class ShapeTest(unittest.TestCase):
    def test_is_variable(self):
        for term in (0, 1, BIG):
            self.assertIs(is_variable(term), True)
        for term in (TRUTH, A, f(0), p(), (SKOLEM, ())):
            self.assertIs(is_variable(term), False)

    def test_size(self):
        self.assertEqual(size(0), 1)
        self.assertEqual(size(BIG), 1)
        self.assertEqual(size(A), 1)
        self.assertEqual(size(f(0, 0, A)), 4)
        self.assertEqual(size(f(g(A, 1), f())), 5)

    def test_depth(self):
        self.assertEqual(depth(0), 0)
        self.assertEqual(depth(A), 0)
        self.assertEqual(depth(f(0)), 1)
        self.assertEqual(depth(f(A)), 1)
        self.assertEqual(depth(f(A, g(1, g(A)), 0)), 3)
        self.assertEqual(depth(f(g(g(A)), 0)), 3)

    def test_one_symbol_with_different_numbers_of_arguments(self):
        term = f(f(), f(0), f(0, f(1)))
        self.assertEqual((size(term), depth(term), variables(term)), (8, 3, [0, 1]))

    def test_deep_terms(self):
        for many in (120, 150):
            self.assertEqual(size(chain(many, 5)), many + 1)
            self.assertEqual(depth(chain(many, 5)), many)
            self.assertEqual(variables(chain(many, 5)), [5])
            self.assertEqual(occurrences(chain(many, 5), 5), 1)
            self.assertIs(is_individual(chain(many, 5)), True)
            self.assertIs(is_individual(chain(many, p())), False)
            self.assertIs(is_atomic(p(chain(many - 1, A))), True)

    def test_a_hundred_arguments(self):
        term = f(*range(100))
        self.assertEqual((size(term), depth(term), variables(term)), (101, 1, list(range(100))))

    def test_against_the_words_of_the_document(self):
        for term in random_terms(1, 300):
            self.assertEqual(size(term), naive_size(term))
            self.assertEqual(depth(term), naive_depth(term))
            self.assertEqual(variables(term), list(dict.fromkeys(leaves(term))))
            for variable in range(5):
                self.assertEqual(occurrences(term, variable), leaves(term).count(variable))


class VariablesTest(unittest.TestCase):
    def test_in_the_order_of_their_first_occurrence_each_once(self):
        self.assertEqual(variables(f(3, g(1, 3), 0, 1)), [3, 1, 0])
        self.assertEqual(variables(f(g(g(7)), 2, 7)), [7, 2])

    def test_a_variable_and_terms_without_variables(self):
        self.assertEqual(variables(4), [4])
        self.assertEqual(variables(A), [])
        self.assertEqual(variables(f(A, g(B))), [])

    def test_variables_of_any_size(self):
        self.assertEqual(variables(f(BIG, 0, BIG)), [BIG, 0])
        self.assertEqual(occurrences(f(BIG, 0, BIG), BIG), 2)

    def test_occurrences(self):
        self.assertEqual(occurrences(0, 0), 1)
        self.assertEqual(occurrences(0, 1), 0)
        self.assertEqual(occurrences(A, 2), 0)
        self.assertEqual(occurrences(f(0, g(0, 1), 0), 0), 3)
        self.assertEqual(occurrences(f(0, g(0, 1), 0), 1), 1)
        self.assertEqual(occurrences(f(0, g(0, 1), 0), 2), 0)

    def test_the_list_is_new(self):
        term = f(0, 1)
        variables(term).append(9)
        self.assertEqual(variables(term), [0, 1])


class AtomsTest(unittest.TestCase):
    def test_is_atom(self):
        for term in (TRUTH, TRUTH_WITH_ARGUMENT, p(), p(0), (PART, ()), (PART, (A,)), (ANSWER, (0,)), p(p())):
            self.assertIs(is_atom(term), True, term)
        for term in (0, BIG, A, f(0), f(p()), (SKOLEM, ()), (SKOLEM, (0,))):
            self.assertIs(is_atom(term), False, term)

    def test_is_individual(self):
        for term in (0, BIG, A, f(0), (SKOLEM, (f(A, 1),)), f((SKOLEM, ()))):
            self.assertIs(is_individual(term), True, term)
        for term in (TRUTH, p(), p(0), (PART, ()), (ANSWER, ()), f(TRUTH), f(0, g(p(0))), (SKOLEM, ((ANSWER, ()),)),
                     f((PART, ())), TRUTH_WITH_ARGUMENT):
            self.assertIs(is_individual(term), False, term)

    def test_is_atomic(self):
        for term in (TRUTH, TRUTH_WITH_ARGUMENT, p(), p(0, f(A)), (PART, (0,)), (ANSWER, ((SKOLEM, ()),))):
            self.assertIs(is_atomic(term), True, term)
        for term in (0, A, f(0), (SKOLEM, ()), p(q()), p(0, f(q(0))), (PART, (TRUTH,)), ((0, 0, 0), (p(),)), f(p())):
            self.assertIs(is_atomic(term), False, term)

    def test_against_the_words_of_the_document(self):
        def symbols(term):
            return [] if isinstance(term, int) else [term[0]] + [s for t in term[1] for s in symbols(t)]

        for term in random_terms(2, 300):
            atom = not isinstance(term, int) and term[0][0] in (0, 1, 4, 5)
            self.assertIs(is_atom(term), atom)
            self.assertIs(is_individual(term), all(s[0] in (2, 3) for s in symbols(term)))
            self.assertIs(is_atomic(term), atom and all(s[0] in (2, 3) for s in symbols(term)[1:]))


class UnchangedTest(unittest.TestCase):
    def test_symbols_of_terms_are_tuples(self):
        self.assertEqual(f(0)[0], F)
        self.assertEqual(p(0)[0], P)
