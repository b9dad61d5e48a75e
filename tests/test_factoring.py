import random
import unittest

from lastproof.formulas.meaning import clause_holds
from lastproof.infer.factoring import factorings
from lastproof.terms.literals import clause_variables, is_well_formed, renumbered
from lastproof.terms.substitutions import put_clause
from tests.formula_samples import random_world, uses_of_clauses
from tests.plain_conclusions import as_tuples, naive_factorings, small_clause
from tests.samples import A, B, F, TRUTH, eq, f, g, ne, no, p, q, yes

NOT_TRUTH = (False, TRUTH, TRUTH)


class FactoringsTest(unittest.TestCase):
    def check(self, c, rows, selected=None, weights=()):
        """Rows are (clause, literal, side, other literal, other side)."""
        found = factorings(dict(weights), c, selected)
        self.assertEqual([(e.clause, e.literal, e.side, e.other_literal, e.other_side) for e in found], rows)
        for e in found:
            self.assertEqual((e.kind, e.place, e.second), ("factoring", None, {}))
        self.assertEqual(as_tuples(found), naive_factorings(dict(weights), c, selected))

    def test_atoms_in_both_orders_of_first_and_second(self):
        self.check((yes(p(0)), yes(p(1))), [
            ((NOT_TRUTH, yes(p(0))), 0, 0, 1, 0), ((yes(p(0)), NOT_TRUTH), 1, 0, 0, 0)])
        self.check((yes(p(f(0))), yes(p(1))), [
            ((NOT_TRUTH, yes(p(f(0)))), 0, 0, 1, 0), ((yes(p(f(0))), NOT_TRUTH), 1, 0, 0, 0)])

    def test_a_selected_literal(self):
        c = (yes(p(0)), no(q()), yes(p(1)))
        self.check(c, [((NOT_TRUTH, no(q()), yes(p(0))), 0, 0, 2, 0), ((yes(p(0)), no(q()), NOT_TRUTH), 2, 0, 0, 0)])
        self.check(c, [], 1)

    def test_negative_literals(self):
        self.check((yes(p(0)), no(p(1))), [])
        self.check((no(p(0)), no(p(0))), [])
        self.check((yes(p(0)),), [])
        self.check((), [])

    def test_each_of_the_two_sides(self):
        # The side 0 of the first literal with both sides of the second one.
        self.check((eq(f(0), 0), eq(1, 2)), [
            ((ne(0, 1), eq(f(0), 1)), 0, 0, 1, 0), ((ne(0, 1), eq(1, f(0))), 0, 0, 1, 1),
            ((eq(f(0), 0), ne(1, 0)), 1, 0, 0, 0), ((eq(f(0), 0), ne(1, f(0))), 1, 0, 0, 1),
            ((eq(f(0), 0), ne(1, 0)), 1, 1, 0, 0), ((eq(f(0), 0), ne(1, f(0))), 1, 1, 0, 1)])
        # The side 1 of the first literal, where the side 0 may not lead.
        self.check((eq(A, f(A)), eq(B, f(A))), [
            ((eq(A, f(A)), ne(B, A)), 1, 1, 0, 1)])

    def test_the_new_literal_has_the_other_side_of_the_first_one_on_its_left(self):
        c = (eq(g(0, A), A), eq(g(B, 1), B))
        # Only one of the literals is greatest with the substitution: the one with the greater other side.
        self.check(c, [((eq(g(B, A), A), ne(B, A)), 1, 0, 0, 0)])
        self.check(c, [((ne(A, B), eq(g(B, A), B)), 0, 0, 1, 0)], None, {A[0]: 2}.items())

    def test_atoms_against_terms(self):
        self.check((yes(p(0)), eq(1, f(1))), [])
        # A variable is not an atom, so it is not unified with one.
        self.check((yes(p(0)), eq(1, 2)), [])
        self.check((eq(0, 1), (True, TRUTH, TRUTH)), [])
        self.check((yes(p(0)), eq(f(1), 1), yes(p(0))), [
            ((NOT_TRUTH, eq(f(0), 0), yes(p(1))), 0, 0, 2, 0), ((yes(p(0)), eq(f(1), 1), NOT_TRUTH), 2, 0, 0, 0)])

    def test_the_first_literal_must_be_greatest(self):
        great = yes(q(f(f(0)), f(f(1))))
        self.check((yes(p(0)), yes(p(1)), great), [])
        self.check((yes(p(2)), yes(p(3)), great), [
            ((NOT_TRUTH, yes(p(0)), yes(q(f(f(1)), f(f(2))))), 0, 0, 1, 0),
            ((yes(p(0)), NOT_TRUTH, yes(q(f(f(1)), f(f(2))))), 1, 0, 0, 0)])
        # Another literal that is the same does not matter.
        self.check((yes(p(A)), yes(p(A))), [((NOT_TRUTH, yes(p(A))), 0, 0, 1, 0), ((yes(p(A)), NOT_TRUTH), 1, 0, 0, 0)])

    def test_the_conditions_hold_for_the_instances(self):
        # Where 0 becomes a, p(0) is not greatest any more. Where it becomes f(1), it is.
        c = (yes(p(0)), yes(p(A)), yes(p(f(1))))
        self.check(c, [((NOT_TRUTH, yes(p(A)), yes(p(f(0)))), 0, 0, 2, 0),
                       ((yes(p(f(0))), yes(p(A)), NOT_TRUTH), 2, 0, 0, 0)])
        # A side that is less than the other one never leads.
        self.check((eq(0, f(0)), eq(A, f(1))), [
            ((ne(0, A), eq(A, f(0))), 0, 1, 1, 1), ((eq(0, f(0)), ne(A, 0)), 1, 1, 0, 1)])
        # Here the first literal is greater than the second one only with the substitution.
        self.check((eq(0, f(1)), eq(f(f(1)), A)), [((ne(f(0), A), eq(f(f(0)), A)), 0, 0, 1, 0)])
        self.check((eq(0, A), eq(0, B)), [((eq(0, A), ne(B, A)), 1, 0, 0, 0)])

    def test_a_side_that_may_not_lead(self):
        self.check((eq(A, f(A)), eq(A, f(A))), [
            ((ne(A, A), eq(A, f(A))), 0, 1, 1, 1), ((eq(A, f(A)), ne(A, A)), 1, 1, 0, 1)])
        self.check((eq(A, A), eq(A, A)), [])

    def test_weights(self):
        c = (eq(f(A), A), eq(f(A), B))
        self.check(c, [((eq(f(A), A), ne(B, A)), 1, 0, 0, 0)])
        self.check(c, [((ne(A, B), eq(f(A), B)), 0, 0, 1, 0)], None, {A[0]: 2}.items())

    def test_the_order_of_the_conclusions(self):
        c = (eq(0, 1), eq(2, 3), eq(4, 5))
        rows = [(e.literal, e.side, e.other_literal, e.other_side) for e in factorings({}, c, None)]
        self.assertEqual(rows, [(i, s, j, u) for i in range(3) for s in (0, 1) for j in range(3) if j != i for u in (0, 1)])

    def test_what_the_variables_became(self):
        # The variables that do not occur in the conclusion get the next numbers.
        found = factorings({}, (yes(p(f(6), 2)), yes(p(3, 2)), no(q(9))), None)
        self.assertEqual([list(e.first.items()) for e in found], [
            [(6, 0), (2, 1), (3, f(0)), (9, 2)], [(6, 0), (2, 1), (3, f(0)), (9, 2)]])
        self.assertEqual(found[0].clause, (NOT_TRUTH, yes(p(f(0), 1)), no(q(2))))
        # The conclusion has its variables renumbered by its own order.
        found = factorings({}, (eq(f(4), A), eq(f(g(2, 7)), 7)), None)
        self.assertEqual([(e.clause, list(e.first.items())) for e in found], [
            ((ne(A, 0), eq(f(g(1, 0)), 0)), [(4, g(1, 0)), (2, 1), (7, 0)]),
            ((eq(f(g(0, 1)), A), ne(1, A)), [(4, g(0, 1)), (2, 0), (7, 1)])])

    def test_arguments_stay_and_what_is_returned_is_new(self):
        weights = {A[0]: 2}
        c = (yes(p(A)), yes(p(A)))
        found = factorings(weights, c, None)
        found[0].first[3] = A
        found.clear()
        self.assertEqual(weights, {A[0]: 2})
        self.assertEqual(len(factorings(weights, c, None)), 2)

    def test_against_the_words_of_the_document(self):
        source = random.Random(69)
        many = 0
        for _ in range(2000):
            c = small_clause(source, positive=0.8)
            weights = source.choice([{}, {F: 2}, {A[0]: 3}])
            selected = source.choice([None] * 5 + [k for k, literal in enumerate(c) if not literal[0]])
            found = factorings(weights, c, selected)
            many += len(found)
            self.assertEqual(as_tuples(found), naive_factorings(weights, c, selected))
            for e in found:
                self.check_record(c, e)
        self.assertGreater(many, 300)

    def check_record(self, c, e):
        """The conclusion is what the record says, and it is well formed and renumbered."""
        self.assertEqual(list(e.first), clause_variables(c))
        instance = put_clause(c, e.first)
        one, other = instance[e.literal], instance[e.other_literal]
        self.assertEqual(one[1 + e.side], other[1 + e.other_side])
        new = (False, one[2 - e.side], other[2 - e.other_side])
        self.assertEqual(instance[:e.literal] + (new,) + instance[e.literal + 1:], e.clause)
        self.assertTrue(is_well_formed(e.clause))
        self.assertEqual(renumbered(e.clause)[0], e.clause)

    def test_conclusions_hold_where_the_clause_holds(self):
        source = random.Random(711)
        many = 0
        for _ in range(800):
            c = small_clause(source, positive=0.9)
            found = factorings({}, c, None)
            world = random_world(source, uses_of_clauses([c]), 2)
            if found and clause_holds(c, world):
                many += len(found)
                self.assertTrue(all(clause_holds(e.clause, world) for e in found))
        self.assertGreater(many, 50)
