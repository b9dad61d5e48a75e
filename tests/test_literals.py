import unittest

from lastproof.terms.literals import (
    clause_depth, clause_size, clause_variables, is_well_formed, is_well_formed_literal, literal_size,
    renumbered, same, side, with_side,
)
from lastproof.terms.substitutions import put_clause
from tests.samples import A, ANSWER, B, PART, SKOLEM, TRUTH, chain, f, g, p, q, random_clauses

BIG = 10 ** 40


class SidesTest(unittest.TestCase):
    def test_side(self):
        for positive in (True, False):
            self.assertEqual(side((positive, A, f(0)), 0), A)
            self.assertEqual(side((positive, A, f(0)), 1), f(0))
        self.assertEqual(side((True, p(0), TRUTH), 1), TRUTH)

    def test_with_side(self):
        for positive in (True, False):
            self.assertEqual(with_side((positive, A, f(0)), 0, B), (positive, B, f(0)))
            self.assertEqual(with_side((positive, A, f(0)), 1, B), (positive, A, B))

    def test_with_side_keeps_the_sign(self):
        self.assertIs(with_side((True, A, B), 1, 0)[0], True)
        self.assertIs(with_side((False, A, B), 0, 0)[0], False)


class SameTest(unittest.TestCase):
    def test_the_sides_in_either_order(self):
        for positive in (True, False):
            self.assertIs(same((positive, A, f(0)), (positive, A, f(0))), True)
            self.assertIs(same((positive, A, f(0)), (positive, f(0), A)), True)

    def test_different_signs(self):
        self.assertIs(same((True, A, B), (False, A, B)), False)
        self.assertIs(same((False, A, B), (True, B, A)), False)

    def test_different_sides(self):
        self.assertIs(same((True, A, B), (True, A, A)), False)
        self.assertIs(same((True, A, A), (True, A, B)), False)
        self.assertIs(same((True, A, B), (True, B, B)), False)
        self.assertIs(same((True, A, B), (True, f(A), B)), False)
        self.assertIs(same((True, 0, 1), (True, 1, 2)), False)
        self.assertIs(same((True, 0, 1), (True, 2, 0)), False)

    def test_atoms(self):
        self.assertIs(same((True, p(0), TRUTH), (True, TRUTH, p(0))), True)
        self.assertIs(same((True, p(0), TRUTH), (True, p(1), TRUTH)), False)


class WellFormedTest(unittest.TestCase):
    def test_two_individual_sides(self):
        for literal in [(True, 0, 1), (False, A, f(0)), (True, (SKOLEM, (0,)), f(f(A)))]:
            self.assertIs(is_well_formed_literal(literal), True, literal)

    def test_an_atomic_atom_and_truth(self):
        for atom in [p(), p(0, f(A)), TRUTH, ((0, 0, 0), (0,)), (PART, (0,)), (ANSWER, (A,))]:
            for positive in (True, False):
                self.assertIs(is_well_formed_literal((positive, atom, TRUTH)), True, atom)

    def test_what_is_not_well_formed(self):
        for literal in [
            (True, TRUTH, p(0)), (True, p(0), q(0)), (True, p(0), p(0)), (True, A, TRUTH), (True, 0, TRUTH),
            (True, TRUTH, A), (True, TRUTH, 0), (True, p(0), A), (True, A, p(0)), (True, 0, p(0)),
            (True, p(q(0)), TRUTH), (True, f(p(0)), TRUTH), (True, f(p(0)), A), (True, A, f(p(0))),
            (True, f(TRUTH), A), (True, p(0), ((0, 0, 0), (A,))), (True, (SKOLEM, ()), TRUTH),
        ]:
            self.assertIs(is_well_formed_literal(literal), False, literal)
            self.assertIs(is_well_formed_literal((False,) + literal[1:]), False, literal)

    def test_clauses(self):
        good = (True, p(0), TRUTH)
        bad = (True, TRUTH, p(0))
        self.assertIs(is_well_formed(()), True)
        self.assertIs(is_well_formed((good, (False, 0, A))), True)
        self.assertIs(is_well_formed((good, bad)), False)
        self.assertIs(is_well_formed((bad, good)), False)
        self.assertIs(is_well_formed((bad,)), False)


class MeasuresTest(unittest.TestCase):
    def test_literal_size(self):
        self.assertEqual(literal_size((True, f(0), A)), 3)
        self.assertEqual(literal_size((False, p(0, g(1)), TRUTH)), 5)

    def test_clause_size(self):
        self.assertEqual(clause_size(()), 0)
        self.assertEqual(clause_size(((True, f(0), A), (False, p(0), TRUTH), (True, 0, 1))), 8)

    def test_clause_depth(self):
        self.assertEqual(clause_depth(()), 0)
        self.assertEqual(clause_depth(((True, 0, A),)), 0)
        self.assertEqual(clause_depth(((True, f(0), A), (False, A, f(g(0))), (True, 0, 1))), 2)
        self.assertEqual(clause_depth(((True, f(f(f(0))), A), (False, A, f(g(0))))), 3)
        self.assertEqual(clause_depth(((True, chain(120, 0), A),)), 120)


class VariablesTest(unittest.TestCase):
    def test_literal_by_literal_the_left_side_first(self):
        clause = ((True, f(7, 3), g(3, 5)), (False, p(1, 7), TRUTH), (True, 0, 1))
        self.assertEqual(clause_variables(clause), [7, 3, 5, 1, 0])

    def test_the_empty_clause_and_no_variables(self):
        self.assertEqual(clause_variables(()), [])
        self.assertEqual(clause_variables(((True, A, f(B)),)), [])

    def test_the_list_is_new(self):
        clause = ((True, 0, 1),)
        clause_variables(clause).append(5)
        self.assertEqual(clause_variables(clause), [0, 1])

    def test_renumbering(self):
        clause = ((True, f(7, 3), g(3, 5)), (False, p(1, 7), TRUTH))
        result = renumbered(clause)
        self.assertIs(type(result), tuple)
        self.assertEqual(result[0], ((True, f(0, 1), g(1, 2)), (False, p(3, 0), TRUTH)))
        self.assertEqual(list(result[1].items()), [(7, 0), (3, 1), (5, 2), (1, 3)])

    def test_renumbering_exchanges_variables(self):
        self.assertEqual(renumbered(((True, 1, 0),)), (((True, 0, 1),), {1: 0, 0: 1}))

    def test_renumbering_nothing(self):
        self.assertEqual(renumbered(()), ((), {}))
        self.assertEqual(renumbered(((True, A, B),)), (((True, A, B),), {}))

    def test_variables_of_any_size(self):
        self.assertEqual(renumbered(((True, BIG, f(BIG)),)), (((True, 0, f(0)),), {BIG: 0}))

    def test_renumbering_what_is_renumbered(self):
        for clause in random_clauses(8, 100):
            once, numbering = renumbered(clause)
            self.assertEqual(once, put_clause(clause, numbering))
            self.assertEqual(list(numbering), clause_variables(clause))
            self.assertEqual(list(numbering.values()), list(range(len(numbering))))
            again, identity = renumbered(once)
            self.assertEqual(again, once)
            self.assertEqual(list(identity.items()), [(k, k) for k in range(len(numbering))])
