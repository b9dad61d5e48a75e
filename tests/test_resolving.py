import random
import unittest

from lastproof.formulas.meaning import clause_holds
from lastproof.infer.resolving import resolutions
from lastproof.terms.literals import clause_variables, is_well_formed, renumbered
from lastproof.terms.substitutions import put_clause
from tests.formula_samples import random_world, uses_of_clauses
from tests.plain_conclusions import as_tuples, naive_resolutions, small_clause
from tests.samples import A, B, F, TRUTH, f, g, ne, no, p, q, yes


class ResolutionsTest(unittest.TestCase):
    def check(self, c, rows, selected=None, weights=()):
        """Rows are (clause, literal, what the variables became)."""
        found = resolutions(dict(weights), c, selected)
        self.assertEqual([(e.clause, e.literal, list(e.first.items())) for e in found], rows)
        for e in found:
            self.assertEqual(e.kind, "resolution")
            self.assertEqual((e.side, e.place, e.other_literal, e.other_side, e.second), (None, None, None, None, {}))
        self.assertEqual(as_tuples(found), naive_resolutions(dict(weights), c, selected))

    def test_sides_that_are_equal_from_the_start(self):
        self.check((ne(A, A),), [((), 0, [])])
        self.check((ne(f(3), f(3)),), [((), 0, [(3, 0)])])
        self.check((ne(TRUTH, TRUTH),), [((), 0, [])])
        self.check((ne(p(1), p(1)),), [((), 0, [(1, 0)])])

    def test_sides_that_become_equal(self):
        self.check((ne(4, A),), [((), 0, [(4, A)])])
        self.check((ne(g(0, A), g(B, 7)),), [((), 0, [(0, B), (7, A)])])
        self.check((ne(0, f(1)), yes(p(0, 1))), [], None)
        self.check((ne(0, f(1)), yes(p(0, 1))), [((yes(p(f(0), 0)),), 0, [(0, f(0)), (1, 0)])], 0)

    def test_sides_that_cannot_become_equal(self):
        for literal in [ne(A, B), ne(f(0), g(0)), ne(0, f(0)), ne(f(0, 1), f(0)), no(p(0)), ne(g(0, 0), g(A, B)),
                        no(q())]:
            self.check((literal,), [])
            self.check((literal,), [], 0)

    def test_positive_literals_are_not_resolved(self):
        self.check(((True, A, A), (True, 0, f(1))), [])
        self.check((), [])

    def test_a_selected_literal(self):
        c = (ne(0, A), yes(p(f(f(0)))), ne(f(0), f(1)))
        # Without a selected literal none of the negative ones is greatest.
        self.check(c, [])
        self.check(c, [((yes(p(f(f(A)))), ne(f(A), f(0))), 0, [(0, A), (1, 0)])], 0)
        self.check(c, [((ne(0, A), yes(p(f(f(0))))), 2, [(0, 0), (1, 0)])], 2)

    def test_another_negative_literal_than_the_selected_one(self):
        c = (ne(f(f(0)), f(f(A))), no(q()))
        self.check(c, [((no(q()),), 0, [(0, A)])])
        self.check(c, [], 1)

    def test_the_literal_must_be_greatest(self):
        # The first one is not greatest any more when 0 becomes a, the second one stays greatest.
        self.check((ne(0, A), ne(1, f(A))), [((ne(0, A),), 1, [(0, 0), (1, f(A))])])
        self.check((ne(A, A), ne(f(A), f(A))), [((ne(A, A),), 1, [])])
        # A literal that is the same may stand beside it.
        self.check((ne(f(A), f(A)), ne(f(A), f(A))), [((ne(f(A), f(A)),), 0, []), ((ne(f(A), f(A)),), 1, [])])

    def test_the_conditions_hold_for_the_instances(self):
        # In the clause itself no literal is greater than another one, with the substitution one is.
        c = (ne(0, A), yes(p(B)))
        self.check(c, [])
        self.check(c, [((yes(p(B)),), 0, [(0, A)])], 0)
        self.check((ne(0, f(A)), yes(p(B))), [((yes(p(B)),), 0, [(0, f(A))])])
        self.check((ne(g(0, 1), g(A, 1)), yes(p(0, 0, 0))), [((yes(p(A, A, A)),), 0, [(0, A), (1, 0)])])
        self.check((ne(g(0, B), g(A, B)), yes(p(0, 0, 0))), [])
        self.check((ne(g(0, 1), g(A, 1)), yes(p(0))), [((yes(p(A)),), 0, [(0, A), (1, 0)])])

    def test_weights(self):
        c = (ne(f(0), f(A)), yes(p(B)))
        self.check(c, [((yes(p(B)),), 0, [(0, A)])])
        self.check(c, [], None, {B[0]: 9}.items())

    def test_the_order_of_the_conclusions(self):
        c = (ne(0, A), ne(1, A), ne(2, A))
        self.check(c, [
            ((ne(0, A), ne(1, A)), 0, [(0, A), (1, 0), (2, 1)]),
            ((ne(0, A), ne(1, A)), 1, [(0, 0), (1, A), (2, 1)]),
            ((ne(0, A), ne(1, A)), 2, [(0, 0), (1, 1), (2, A)])])
        # The first and the third one have the same clause; both are listed.
        self.check((ne(0, A), ne(0, A)), [((ne(A, A),), 0, [(0, A)]), ((ne(A, A),), 1, [(0, A)])])

    def test_variables_that_do_not_occur_in_the_conclusion(self):
        self.check((ne(g(5, f(2)), g(f(3), 8)), no(p(9))), [((no(p(0)),), 0, [
            (5, f(1)), (2, 2), (3, 1), (8, f(2)), (9, 0)])])
        self.check((ne(7, 4),), [((), 0, [(7, 0), (4, 0)])])

    def test_arguments_stay_and_what_is_returned_is_new(self):
        weights = {A[0]: 2}
        c = (ne(0, A),)
        found = resolutions(weights, c, None)
        found[0].first.clear()
        found.clear()
        self.assertEqual(weights, {A[0]: 2})
        self.check(c, [((), 0, [(0, A)])], None, weights.items())

    def test_against_the_words_of_the_document(self):
        source = random.Random(68)
        many = 0
        for _ in range(1500):
            c = small_clause(source, positive=0.4)
            weights = source.choice([{}, {F: 2}, {A[0]: 3}])
            selected = source.choice([None, None] + [k for k, literal in enumerate(c) if not literal[0]])
            found = resolutions(weights, c, selected)
            many += len(found)
            self.assertEqual(as_tuples(found), naive_resolutions(weights, c, selected))
            for e in found:
                self.check_record(c, e)
        self.assertGreater(many, 200)

    def check_record(self, c, e):
        """The conclusion is what the record says, and it is well formed and renumbered."""
        self.assertEqual(list(e.first), clause_variables(c))
        instance = put_clause(c, e.first)
        self.assertEqual(instance[e.literal][1], instance[e.literal][2])
        self.assertEqual(instance[:e.literal] + instance[e.literal + 1:], e.clause)
        self.assertTrue(is_well_formed(e.clause))
        self.assertEqual(renumbered(e.clause)[0], e.clause)

    def test_conclusions_hold_where_the_clause_holds(self):
        source = random.Random(710)
        many = 0
        for _ in range(3000):
            c = small_clause(source, positive=0.4)
            found = resolutions({}, c, None)
            world = random_world(source, uses_of_clauses([c]), 2)
            if found and clause_holds(c, world):
                many += len(found)
                self.assertTrue(all(clause_holds(e.clause, world) for e in found))
        self.assertGreater(many, 50)
