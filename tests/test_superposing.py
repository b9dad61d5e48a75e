import random
import unittest

from lastproof.formulas.meaning import clause_holds
from lastproof.infer.acting import may_act, may_give, may_lead
from lastproof.infer.conclusions import Conclusion
from lastproof.infer.superposing import superpositions
from lastproof.terms.literals import clause_variables, is_well_formed, renumbered
from lastproof.terms.places import put_at
from lastproof.terms.substitutions import put_clause
from tests.formula_samples import random_world, uses_of_clauses
from tests.plain_conclusions import as_tuples, naive_conditions, naive_superpositions, small_clause
from tests.samples import A, B, F, G, P, TRUTH, eq, f, g, ne, no, p, q, random_clause, yes


class ActingTest(unittest.TestCase):
    def check_act(self, clause, selected, substitution, results, weights=()):
        found = [may_act(dict(weights), clause, selected, k, substitution) for k in range(len(clause))]
        self.assertEqual(found, results)
        self.assertTrue(all(isinstance(one, bool) for one in found))

    def check_give(self, clause, selected, substitution, results, weights=()):
        found = [may_give(dict(weights), clause, selected, k, substitution) for k in range(len(clause))]
        self.assertEqual(found, results)
        self.assertTrue(all(isinstance(one, bool) for one in found))

    def test_a_selected_literal_acts_alone(self):
        clause = (yes(p(f(f(A)))), no(q()), no(p(A)))
        self.check_act(clause, None, {}, [True, False, False])
        self.check_act(clause, 1, {}, [False, True, False])
        self.check_act(clause, 2, {}, [False, False, True])
        self.check_act(clause, 1, {0: A}, [False, True, False])

    def test_nothing_gives_where_a_literal_is_selected(self):
        clause = (yes(p(f(f(A)))), no(q()))
        self.check_give(clause, None, {}, [True, False])
        self.check_give(clause, 1, {}, [False, False])

    def test_no_negative_literal_gives(self):
        clause = (yes(q()), no(p(A)))
        self.check_act(clause, None, {}, [False, True])
        self.check_give(clause, None, {}, [False, False])

    def test_repeated_literals_act_and_do_not_give(self):
        for clause in [(yes(p(A)), yes(p(A))), (eq(A, B), eq(B, A)), (eq(A, B), eq(A, B))]:
            self.check_act(clause, None, {}, [True, True])
            self.check_give(clause, None, {}, [False, False])
        self.check_act((yes(p(A)), yes(p(f(A))), yes(p(f(A)))), None, {}, [False, True, True])
        self.check_give((yes(p(A)), yes(p(f(A))), yes(q())), None, {}, [False, True, False])

    def test_literals_that_are_not_comparable(self):
        clause = (yes(p(0)), yes(p(1)), yes(q()))
        self.check_act(clause, None, {}, [True, True, False])
        self.check_give(clause, None, {}, [True, True, False])

    def test_the_instances_count(self):
        clause = (yes(p(0)), yes(p(1)))
        self.check_act(clause, None, {0: f(1)}, [True, False])
        self.check_give(clause, None, {0: f(1)}, [True, False])
        self.check_act(clause, None, {1: f(0)}, [False, True])
        self.check_give(clause, None, {0: 1}, [False, False])
        self.check_act(clause, None, {0: 1}, [True, True])
        self.check_give(clause, None, {0: A, 1: B}, [False, True])

    def test_weights(self):
        clause = (yes(p(A)), yes(p(B)))
        self.check_act(clause, None, {}, [False, True])
        self.check_act(clause, None, {}, [True, False], {A[0]: 2}.items())
        self.check_give(clause, None, {}, [True, False], {A[0]: 2}.items())

    def test_sides(self):
        rows = [
            (eq(A, A), {}, (False, False)), (eq(A, B), {}, (False, True)), (eq(B, A), {}, (True, False)),
            (eq(f(0), A), {}, (True, False)), (eq(0, A), {}, (True, True)), (eq(f(0), 0), {}, (True, False)), (eq(0, 1), {}, (True, True)),
            (eq(f(0), g(1)), {}, (True, True)), (yes(p(0)), {}, (True, False)), (no(p(0)), {}, (True, False)),
            (eq(f(0), g(1)), {0: 1}, (False, True)), (eq(f(0), g(1)), {0: f(1)}, (True, False)), (eq(0, 1), {0: 1}, (False, False)),
            (eq(0, 1), {0: f(1)}, (True, False)), (ne(0, A), {0: A}, (False, False)), (ne(0, A), {0: B}, (True, False)),
            (eq(TRUTH, TRUTH), {}, (False, False)),
        ]
        for literal, substitution, results in rows:
            for k in (0, 1):
                self.assertIs(may_lead({}, literal, k, substitution), results[k], (literal, substitution, k))
        self.assertIs(may_lead({A[0]: 2}, eq(A, B), 0, {}), True)
        self.assertIs(may_lead({A[0]: 2}, eq(A, B), 1, {}), False)

    def test_against_the_words_of_the_document(self):
        source = random.Random(65)
        for _ in range(300):
            clause = random_clause(source, depth=1, variables=2)
            substitution = {k: source.choice([0, 1, A, f(0), f(1)]) for k in range(source.randrange(3))}
            selected = source.choice([None] * 3 + [k for k, literal in enumerate(clause) if not literal[0]])
            for k, literal in enumerate(clause):
                acts, gives, _ = naive_conditions({F: 2}, clause, selected, k, 0, substitution)
                self.assertIs(may_act({F: 2}, clause, selected, k, substitution), acts)
                self.assertIs(may_give({F: 2}, clause, selected, k, substitution), gives)
                for s in (0, 1):
                    leads = naive_conditions({F: 2}, clause, selected, k, s, substitution)[2]
                    self.assertIs(may_lead({F: 2}, literal, s, substitution), leads)

    def test_arguments_stay(self):
        weights, substitution = {A[0]: 2}, {0: A}
        may_act(weights, (yes(p(0)),), None, 0, substitution)
        may_give(weights, (yes(p(0)),), None, 0, substitution)
        may_lead(weights, yes(p(0)), 0, substitution)
        self.assertEqual((weights, substitution), ({A[0]: 2}, {0: A}))


class ConclusionTest(unittest.TestCase):
    def test_the_fields(self):
        e = Conclusion("factoring", (yes(q()),), 0, 1, None, 2, 0, {0: A}, {})
        self.assertEqual(as_tuples([e]), [("factoring", (yes(q()),), 0, 1, None, 2, 0, [(0, A)], [])])
        e = Conclusion(second={1: 0}, first={0: A}, other_side=1, other_literal=2, place=(0, 1), side=0, literal=3,
                       clause=(), kind="superposition")
        self.assertEqual(as_tuples([e]), [("superposition", (), 3, 0, (0, 1), 2, 1, [(0, A)], [(1, 0)])])

    def test_the_dicts_are_copied(self):
        first, second = {0: A}, {1: B}
        e = Conclusion("superposition", (), 0, 0, (), 0, 0, first, second)
        first.clear()
        second.clear()
        self.assertEqual((e.first, e.second), ({0: A}, {1: B}))


class SuperpositionsTest(unittest.TestCase):
    def check(self, c, d, rows, selected_c=None, selected_d=None, weights=()):
        """Rows are (clause, literal, side, place, other literal, other side)."""
        found = superpositions(dict(weights), c, selected_c, d, selected_d)
        self.assertEqual([(e.clause, e.literal, e.side, e.place, e.other_literal, e.other_side) for e in found], rows)
        self.assertEqual({e.kind for e in found} - {"superposition"}, set())
        self.assertEqual(as_tuples(found), naive_superpositions(dict(weights), c, selected_c, d, selected_d))

    def test_the_example_of_the_interface(self):
        truth = ((0, 0, 0), ())
        function = (2, 0, 0)
        a = ((2, 1, 0), ())
        goal = ((False, ((1, 0, 0), ((function, (a,)),)), truth),)
        self.assertEqual([e.clause for e in superpositions({}, goal, None, ((True, (function, (0,)), 0),), None)],
                         [((False, ((1, 0, 0), (((2, 1, 0), ()),)), ((0, 0, 0), ())),)])

    def test_atoms_against_atoms(self):
        self.check((no(p(A)), yes(q())), (yes(p(0)),), [((no(TRUTH), yes(q())), 0, 0, (), 0, 0)], selected_c=0)
        self.check((no(p(f(0))),), (yes(p(f(0))), no(q())), [((no(TRUTH), no(q())), 0, 0, (), 0, 0)])
        # Positive literals are rewritten, too.
        self.check((yes(p(A)),), (yes(p(A)),), [((yes(TRUTH),), 0, 0, (), 0, 0)])
        self.check((no(p(A)),), (yes(q()),), [])
        self.check((no(p(A)),), (yes(p(B)),), [])
        self.check((no(p(A)),), (yes(p(A, A)),), [])

    def test_terms_against_terms_at_each_place(self):
        d = (eq(f(0), 0),)
        self.check((no(p(f(f(A)))),), d, [
            ((no(p(f(A))),), 0, 0, (0,), 0, 0), ((no(p(f(A))),), 0, 0, (0, 0), 0, 0)])
        self.check((no(p(g(f(0), f(1)), f(A))),), d, [
            ((no(p(g(0, f(1)), f(A))),), 0, 0, (0, 0), 0, 0), ((no(p(g(f(0), 1), f(A))),), 0, 0, (0, 1), 0, 0),
            ((no(p(g(f(0), f(1)), A)),), 0, 0, (1,), 0, 0)])
        self.check((ne(g(f(A)), f(A)),), d, [((ne(g(A), f(A)),), 0, 0, (0,), 0, 0)])
        self.check((ne(f(A), g(f(A))),), d, [((ne(f(A), g(A)),), 0, 1, (0,), 0, 0)])

    def test_no_superposition_into_variables(self):
        self.check((no(p(0)),), (eq(f(0), 0),), [])
        self.check((eq(0, 1),), (eq(f(0), 0),), [])
        self.check((no(p(f(0))),), (eq(f(f(A)), A),), [((no(p(A)),), 0, 0, (0,), 0, 0)])

    def test_superposition_by_a_variable(self):
        # The variable may lead where its instance is not less than the other side.
        self.check((no(p(B)),), (eq(0, A),), [((no(p(A)),), 0, 0, (0,), 0, 0)])
        self.check((no(p(A)),), (eq(0, A),), [((no(p(0)),), 0, 0, (0,), 0, 1)])
        # A variable is no atom.
        self.check((no(q()),), (eq(0, A),), [])

    def test_truth_as_the_term(self):
        # TRUTH is an atom, but neither it nor what it is unified with may lead.
        self.check((no(TRUTH),), (yes(p(0)),), [])
        self.check((no(TRUTH),), (yes(TRUTH),), [])
        self.check((no(p(A)),), (yes(q()),), [])
        # Where truth has arguments, it is greater than TRUTH.
        truth = ((0, 0, 0), (A,))
        self.check((no(truth),), (yes(truth),), [((no(TRUTH),), 0, 0, (), 0, 0)])
        # A literal of two atoms, which has no text, shows that TRUTH is taken for an atom.
        self.check(((False, A, TRUTH),), (yes(p(0)),), [])
        self.check(((True, A, A),), ((True, TRUTH, A),), [])

    def test_the_literal_of_the_first_clause_may_act(self):
        d = (eq(f(A), A),)
        self.check((no(p(f(A))), yes(p(f(f(A))))), d, [((no(p(f(A))), yes(p(f(A)))), 1, 0, (0, 0), 0, 0)])
        self.check((no(p(f(A))), yes(p(f(f(A))))), d, [((no(p(A)), yes(p(f(f(A))))), 0, 0, (0,), 0, 0)], selected_c=0)
        # The first literal is greatest for some substitutions only: here for the place in it, not in the second one.
        self.check((no(p(f(0))), no(p(f(1)))), (eq(f(f(A)), A),), [
            ((no(p(A)), no(p(f(0)))), 0, 0, (0,), 0, 0), ((no(p(f(0))), no(p(A))), 1, 0, (0,), 0, 0)])
        self.check((no(p(g(0))), no(p(f(1)))), (eq(g(A), A),), [((no(p(A)), no(p(f(0)))), 0, 0, (0,), 0, 0)])
        self.check((no(p(f(0))), no(p(g(1)))), (eq(f(A), A),), [])
        self.check((no(p(f(0))), no(p(g(0)))), (eq(f(A), A),), [])

    def test_the_side_of_the_first_clause_may_lead(self):
        d = (eq(f(A), A),)
        self.check((ne(f(A), g(f(A))),), d, [((ne(f(A), g(A)),), 0, 1, (0,), 0, 0)])
        self.check((ne(f(A), f(A)),), d, [])
        self.check((eq(f(A), B),), d, [((eq(A, B),), 0, 0, (), 0, 0)])
        self.check((eq(B, f(A)),), d, [((eq(B, A),), 0, 1, (), 0, 0)])
        # Sides that are not comparable before the substitution.
        self.check((ne(f(0), g(A)),), (eq(g(A), A),), [((ne(f(0), A),), 0, 1, (), 0, 0)])
        self.check((ne(f(0), g(0)),), (eq(f(A), A),), [])

    def test_the_literal_of_the_second_clause_may_give(self):
        c = (no(p(f(A))),)
        self.check(c, (eq(f(A), A), yes(q())), [((no(p(A)), yes(q())), 0, 0, (0,), 0, 0)])
        self.check(c, (yes(p(f(B))), eq(f(A), A)), [])
        self.check(c, (eq(f(A), A), eq(A, f(A))), [])
        self.check(c, (ne(f(A), A),), [])
        self.check(c, (eq(f(A), A), no(q())), [], selected_d=1)
        self.check(c, (no(q()), eq(f(A), A)), [((no(p(A)), no(q())), 0, 0, (0,), 1, 0)])
        # Greatest alone for some substitutions only.
        self.check(c, (eq(f(0), A), eq(f(1), A)), [
            ((no(p(A)), eq(f(0), A)), 0, 0, (0,), 0, 0), ((no(p(A)), eq(f(0), A)), 0, 0, (0,), 1, 0)])
        self.check(c, (eq(f(0), A), yes(q(f(f(0))))), [])

    def test_the_side_of_the_second_clause_may_lead(self):
        c = (no(p(f(A))),)
        self.check(c, (eq(g(A), f(A)),), [])
        self.check(c, (eq(f(A), g(A)),), [])
        self.check((no(p(g(A))),), (eq(f(A), g(A)),), [((no(p(f(A))),), 0, 0, (0,), 0, 1)])
        self.check((no(p(g(A))),), (eq(g(A), f(A)),), [((no(p(f(A))),), 0, 0, (0,), 0, 0)])
        self.check(c, (eq(f(A), f(A)),), [])
        # Both sides may lead before the substitution.
        self.check((no(p(f(A, f(B)))),), (eq(f(0, 1), f(1, 0)),), [])
        self.check((no(p(f(f(B), A))),), (eq(f(0, 1), f(1, 0)),), [
            ((no(p(f(A, f(B)))),), 0, 0, (0,), 0, 0), ((no(p(f(A, f(B)))),), 0, 0, (0,), 0, 1)])

    def test_weights(self):
        c, d = (no(p(A)), no(p(B))), (eq(A, B),)
        self.check(c, d, [((no(p(A)), no(p(A))), 1, 0, (0,), 0, 1)])
        self.check(c, d, [((no(p(B)), no(p(B))), 0, 0, (0,), 0, 0)], weights={A[0]: 2}.items())

    def test_the_same_clause_twice(self):
        c = (eq(f(f(0)), g(0)),)
        found = superpositions({}, c, None, c, None)
        self.assertEqual([(e.place, e.clause) for e in found], [
            ((), (eq(g(0), g(0)),)), ((0,), (eq(f(g(0)), g(f(0))),))])
        self.assertEqual([(e.first, e.second) for e in found], [({0: 0}, {0: 0}), ({0: f(0)}, {0: 0})])

    def test_variables_of_the_same_numbers_in_both(self):
        c, d = (no(p(f(0), 0, 1)),), (eq(f(1), 0), no(q()))
        self.check(c, (eq(f(g(1, 0)), 1),), [((no(p(0, g(0, 1), 2)),), 0, 0, (0,), 0, 0)])
        self.check(c, (eq(f(0), A),), [((no(p(A, 0, 1)),), 0, 0, (0,), 0, 0)])
        self.assertEqual(superpositions({}, c, None, d, None)[0].second, {1: 1, 0: 0})

    def test_the_order_of_the_conclusions(self):
        c = (no(p(f(A), f(A))), no(p(f(A), f(A))), ne(g(f(A), f(A)), g(f(A), f(A), A)))
        d = (eq(f(A), A),)
        self.check(c, d, as_rows({}, c, d))
        order = [(e.literal, e.side, e.place) for e in superpositions({}, c[:2], None, d, None)]
        self.assertEqual(order, [(0, 0, (0,)), (0, 0, (1,)), (1, 0, (0,)), (1, 0, (1,))])
        d = (eq(f(0), f(1)), eq(f(2), f(3)))
        order = [(e.literal, e.place, e.other_literal, e.other_side)
                 for e in superpositions({}, (no(p(f(A), f(B))),), None, d, None)]
        self.assertEqual(order, [(0, place, k, s) for place in [(0,), (1,)] for k in (0, 1) for s in (0, 1)])

    def test_conclusions_that_are_found_in_two_ways(self):
        self.check((no(p(f(A), f(A))),), (eq(f(0), A), eq(f(1), A)),
                   [((no(p(A, f(A))), eq(f(0), A)), 0, 0, (0,), k, 0) for k in (0, 1)]
                   + [((no(p(f(A), A)), eq(f(0), A)), 0, 0, (1,), k, 0) for k in (0, 1)])

    def test_what_the_variables_became(self):
        # The variable 3 of d goes away, and so does the variable 5 of c; they get the next numbers.
        c = (no(p(f(5, 7), 2)), yes(q()))
        d = (eq(f(g(3), 0), 0), no(p(9)))
        found = superpositions({}, c, 0, d, None)
        self.assertEqual(as_tuples(found), [(
            "superposition", (no(p(0, 1)), yes(q()), no(p(2))), 0, 0, (0,), 0, 0,
            [(5, g(3)), (7, 0), (2, 1)], [(3, 3), (0, 0), (9, 2)])])
        # Several variables that do not occur in the conclusion: first those of c, then those of d.
        c = (no(p(f(1, g(0, 2)))),)
        d = (eq(f(4, g(3, 4)), A),)
        found = superpositions({}, c, None, d, None)
        self.assertEqual(as_tuples(found), [(
            "superposition", (no(p(A)),), 0, 0, (0,), 0, 0, [(1, 0), (0, 1), (2, 0)], [(4, 0), (3, 1)])])
        c = (no(p(f(A, 6), 1)),)
        d = (eq(f(0, 2), B),)
        self.assertEqual([(e.first, e.second) for e in superpositions({}, c, None, d, None)],
                         [({6: 1, 1: 0}, {0: A, 2: 1})])

    def test_literals_of_the_second_clause_come_last(self):
        self.check((yes(q()), no(p(f(A))), no(p(0))), (no(q()), eq(f(1), 1), no(p(1))), [
            ((yes(q()), no(p(A)), no(p(0)), no(q()), no(p(A))), 1, 0, (0,), 1, 0)], selected_c=1)

    def test_empty_clauses(self):
        self.check((), (yes(p(0)),), [])
        self.check((no(p(0)),), (), [])

    def test_arguments_stay_and_the_list_is_new(self):
        weights = {A[0]: 2}
        c, d = (no(p(f(A))),), (eq(f(0), 0),)
        superpositions(weights, c, None, d, None).clear()
        self.assertEqual(weights, {A[0]: 2})
        self.assertEqual(len(superpositions(weights, c, None, d, None)), 1)

    def test_against_the_words_of_the_document(self):
        source = random.Random(66)
        many = 0
        for _ in range(1500):
            c, d = small_clause(source), small_clause(source)
            if source.random() < 0.1:
                d = c
            weights = source.choice([{}, {F: 2}, {A[0]: 3, G: 2, P: 2}])
            selected = [source.choice([None, None] + [k for k, literal in enumerate(clause) if not literal[0]])
                        for clause in (c, d)]
            found = superpositions(weights, c, selected[0], d, selected[1])
            many += len(found)
            self.assertEqual(as_tuples(found), naive_superpositions(weights, c, selected[0], d, selected[1]))
            for e in found:
                self.check_conclusion(c, d, e)
        self.assertGreater(many, 700)

    def check_conclusion(self, c, d, e):
        """The conclusion is what the record says, and it is well formed and renumbered."""
        self.assertEqual(list(e.first), clause_variables(c))
        self.assertEqual(list(e.second), clause_variables(d))
        self.assertTrue(is_well_formed(e.clause))
        self.assertEqual(renumbered(e.clause)[0], e.clause)
        one, two = put_clause(c, e.first), put_clause(d, e.second)
        sides = list(one[e.literal][1:])
        sides[e.side] = put_at(sides[e.side], e.place, two[e.other_literal][2 - e.other_side])
        changed = (one[e.literal][0],) + tuple(sides)
        self.assertEqual(e.clause, one[:e.literal] + (changed,) + one[e.literal + 1:]
                         + two[:e.other_literal] + two[e.other_literal + 1:])

    def test_conclusions_hold_where_the_clauses_hold(self):
        source = random.Random(71)
        many = 0
        for _ in range(2500):
            c, d = small_clause(source), small_clause(source)
            found = superpositions({}, c, None, d, None)
            if found:
                world = random_world(source, uses_of_clauses([c, d]), 2)
                if clause_holds(c, world) and clause_holds(d, world):
                    many += len(found)
                    self.assertTrue(all(clause_holds(e.clause, world) for e in found))
        self.assertGreater(many, 100)


def as_rows(weights, c, d):
    """The rows of the naive conclusions."""
    return [row[1:7] for row in naive_superpositions(weights, c, None, d, None)]
