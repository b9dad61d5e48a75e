import random
import unittest

from lastproof.reasoner.kept import Gone, Kept
from lastproof.reasoner.settling import first_part, is_lighter, settle
from lastproof.simplify.rewriting import Rewriting
from tests.plain_conclusions import naive_part_of, naive_settle, small_clause
from tests.plain_reasoner import change_tuple
from tests.samples import A, B, F, TRUTH, eq, f, g, ne, no, p, q, yes

GIVEN = ("given", 0, 0)


def kept(number, *clause):
    return Kept(number, clause, None, GIVEN, [])


class KeptTest(unittest.TestCase):
    def test_the_fields(self):
        changes = [("cleaned",), ("renumbered", {3: 0})]
        one = Kept(7, (yes(p(0)), no(q())), 1, ("copied", 3), changes)
        self.assertEqual((one.number, one.clause, one.selected, one.made), (7, (yes(p(0)), no(q())), 1, ("copied", 3)))
        changes[1][1].clear()
        changes.clear()
        self.assertEqual(one.changes, [("cleaned",), ("renumbered", {3: 0})])
        one = Kept(changes=[], made=GIVEN, selected=None, clause=(), number=0)
        self.assertEqual((one.number, one.clause, one.selected, one.made, one.changes), (0, (), None, GIVEN, []))

    def test_the_fields_of_what_is_gone(self):
        one, changes, told = kept(3, yes(q())), [("cleaned",)], {0: A}
        gone = Gone(one, changes, ("part", 2, told, (0,)))
        told.clear()
        changes.clear()
        self.assertIs(gone.kept, one)
        self.assertEqual((gone.changes, gone.reason), ([("cleaned",)], ("part", 2, {0: A}, (0,))))
        self.assertEqual(Gone(reason=("again",), changes=[], kept=one).reason, ("again",))


class SettleTest(unittest.TestCase):
    def check(self, chosen, clause, settled, changes, weights=()):
        """A rewriting stands as (clause, literal, side, place, side of the equation, pairs)."""
        found = settle(dict(weights), chosen, clause)
        self.assertIs(type(found), tuple)
        self.assertEqual((found[0], [change_tuple(change) for change in found[1]]), (settled, changes))
        pairs = [(one.number, one.clause) for one in chosen]
        self.assertEqual(naive_settle(dict(weights), pairs, clause), (settled, changes))

    def test_nothing_to_do(self):
        for clause in [(), (yes(p(0)), no(q(1))), (eq(0, f(1)), eq(1, 0)), (yes(p(A)),), (yes(p(0)), no(p(0)))]:
            self.check([], clause, clause, [])
            self.check([kept(3, eq(f(A), B))], clause, clause, [])

    def test_cleaning(self):
        self.check([], (ne(A, A), yes(q())), (yes(q()),), [("cleaned",)])
        self.check([], (yes(p(0)), ne(1, 1), yes(p(0)), ne(A, A)), (yes(p(0)),), [("cleaned",)])
        self.check([], (ne(0, 0),), (), [("cleaned",)])

    def test_renumbering(self):
        self.check([], (yes(p(1, 0)),), (yes(p(0, 1)),), [("renumbered", [(1, 0), (0, 1)])])
        self.check([], (yes(p(0, 2)),), (yes(p(0, 1)),), [("renumbered", [(0, 0), (2, 1)])])
        self.check([], (yes(q()), eq(4, f(4, 4))), (yes(q()), eq(0, f(0, 0))), [("renumbered", [(4, 0)])])
        # Only if a variable got another number; also because of cleaning.
        self.check([], (yes(p(0, 1)), no(q(1, 0))), (yes(p(0, 1)), no(q(1, 0))), [])
        self.check([], (yes(p(1)), yes(q(0)), yes(p(1))), (yes(q(0)), yes(p(1))), [("cleaned",)])
        self.check([], (ne(0, 0), yes(p(1))), (yes(p(0)),), [("cleaned",), ("renumbered", [(1, 0)])])

    def test_a_rewriting(self):
        rule = kept(5, eq(f(0), 0))
        after = (no(p(A)),)
        self.check([rule], (no(p(f(A))),), after, [("rewritten", 5, (after, 0, 0, (0,), 0, [(0, A)]))])
        changes = settle({}, [rule], (no(p(f(A))),))[1]
        self.assertIs(type(changes[0][2]), Rewriting)

    def test_cleaning_behind_a_rewriting(self):
        rule = kept(2, eq(f(0), 0))
        first, after = (ne(f(4), 4), yes(p(4))), (ne(4, 4), yes(p(4)))
        self.check([rule], first, (yes(p(0)),), [
            ("rewritten", 2, (after, 0, 0, (), 0, [(0, 4)])), ("cleaned",), ("renumbered", [(4, 0)])])
        self.check([kept(9, yes(p(0)))], (no(p(A)),), (), [
            ("rewritten", 9, ((no(TRUTH),), 0, 0, (), 0, [(0, A)])), ("cleaned",)])

    def test_cleaning_before_a_rewriting(self):
        rule = kept(2, eq(f(0), 0))
        after = (no(p(A)),)
        self.check([rule], (ne(f(B), f(B)), no(p(f(A)))), after, [
            ("cleaned",), ("rewritten", 2, (after, 0, 0, (0,), 0, [(0, A)]))])

    def test_several_rewritings_by_several_clauses(self):
        rules = [kept(8, eq(f(A), B)), kept(3, eq(g(0), f(0)))]
        steps = [(no(p(g(g(A)))),), (no(p(f(g(A)))),), (no(p(f(f(A)))),), (no(p(f(B))),)]
        self.check(rules, steps[0], steps[3], [
            ("rewritten", 3, (steps[1], 0, 0, (0,), 0, [(0, g(A))])),
            ("rewritten", 3, (steps[2], 0, 0, (0, 0), 0, [(0, A)])),
            ("rewritten", 8, (steps[3], 0, 0, (0, 0), 0, []))])

    def test_the_first_clause_of_the_list_and_then_all_over_again(self):
        rules = [kept(1, eq(f(0), A)), kept(0, eq(g(0), f(0)))]
        # The second rule comes first here, and then the first one again.
        steps = [(no(p(g(B), g(B))),), (no(p(f(B), g(B))),), (no(p(A, g(B))),), (no(p(A, f(B))),), (no(p(A, A)),)]
        self.check(rules, steps[0], steps[4], [
            ("rewritten", 0, (steps[1], 0, 0, (0,), 0, [(0, B)])), ("rewritten", 1, (steps[2], 0, 0, (0,), 0, [(0, B)])),
            ("rewritten", 0, (steps[3], 0, 0, (1,), 0, [(0, B)])), ("rewritten", 1, (steps[4], 0, 0, (1,), 0, [(0, B)]))])
        # The order of the list counts, not the places and not the numbers.
        rules = [kept(6, eq(f(B), B)), kept(4, eq(f(B), A))]
        self.check(rules, (no(p(f(B))),), (no(p(B)),), [("rewritten", 6, ((no(p(B)),), 0, 0, (0,), 0, []))])
        self.check(rules[::-1], (no(p(f(B))),), (no(p(A)),), [("rewritten", 4, ((no(p(A)),), 0, 0, (0,), 0, []))])

    def test_clauses_of_the_list_that_do_not_rewrite(self):
        others = [kept(0, ne(f(0), 0)), kept(1, eq(f(0), 0), yes(q())), kept(2), kept(3, no(p(0))), kept(4, eq(A, A))]
        clause = (no(p(f(A))), yes(q()))
        self.check(others, clause, clause, [])
        after = (no(p(A)), yes(q()))
        self.check(others + [kept(5, eq(f(0), 0))], clause, after, [("rewritten", 5, (after, 0, 0, (0,), 0, [(0, A)]))])

    def test_a_clause_is_not_rewritten_by_itself(self):
        for literal in [eq(f(0), 0), yes(p(0)), eq(g(0, 1), f(1))]:
            self.check([kept(0, literal)], (literal,), (literal,), [])

    def test_a_selected_literal_and_a_history_do_not_matter(self):
        rule = Kept(5, (eq(f(0), 0),), None, ("copied", 1), [("cleaned",)])
        other = Kept(6, (no(p(0)), yes(q())), 0, ("copied", 1), [("cleaned",)])
        after = (no(p(A)),)
        self.check([other, rule], (no(p(f(A))),), after, [("rewritten", 5, (after, 0, 0, (0,), 0, [(0, A)]))])

    def test_arguments_stay_and_what_is_returned_is_new(self):
        weights, chosen = {A[0]: 2}, [kept(5, eq(f(0), 0))]
        changes = settle(weights, chosen, (no(p(f(3))),))[1]
        changes[1][1].clear()
        changes.clear()
        self.assertEqual((weights, len(chosen), chosen[0].clause), ({A[0]: 2}, 1, (eq(f(0), 0),)))
        after = (no(p(3)),)
        self.check(chosen, (no(p(f(3))),), (no(p(0)),), [
            ("rewritten", 5, (after, 0, 0, (0,), 0, [(0, 3)])), ("renumbered", [(3, 0)])], weights.items())

    def test_against_the_words_of_the_document(self):
        source = random.Random(80)
        many = 0
        for _ in range(1500):
            clause = small_clause(source) + small_clause(source)
            chosen = [kept(2 * k, *small_clause(source, 1, 0.9)) for k in range(source.randrange(6))]
            weights = source.choice([{}, {F: 2}, {A[0]: 3}])
            settled, changes = settle(weights, chosen, clause)
            expected = naive_settle(weights, [(one.number, one.clause) for one in chosen], clause)
            self.assertEqual((settled, [change_tuple(change) for change in changes]), expected)
            many += len(changes)
        self.assertGreater(many, 1500)


class FirstPartTest(unittest.TestCase):
    def test_no_clause(self):
        self.assertIsNone(first_part([], (yes(p(A)),)))
        self.assertIsNone(first_part([kept(0, yes(q())), kept(1, no(p(0)))], (yes(p(A)), no(q()))))
        self.assertIsNone(first_part([kept(0, yes(q()))], ()))

    def test_the_first_one_among_several(self):
        rows = [kept(4, no(q())), kept(9, yes(p(0)), yes(q())), kept(2, yes(p(0))), kept(1, yes(p(A)))]
        self.assertEqual(first_part(rows, (no(p(B)), yes(p(A)))), (2, {0: A}, (1,)))
        self.assertEqual(first_part(rows[::-1], (no(p(B)), yes(p(A)))), (1, {}, (1,)))
        self.assertEqual(first_part(rows, (yes(q()), yes(p(7)))), (9, {0: 7}, (1, 0)))

    def test_the_empty_clause(self):
        self.assertEqual(first_part([kept(3)], (yes(p(0)),)), (3, {}, ()))
        self.assertEqual(first_part([kept(3)], ()), (3, {}, ()))

    def test_against_the_words_of_the_document(self):
        source = random.Random(81)
        many = 0
        for _ in range(1500):
            rows = [kept(k + 3, *small_clause(source, most=1, depth=1)) for k in range(6)]
            clause = small_clause(source, depth=1) + small_clause(source, depth=1)
            found = first_part(rows, clause)
            expected = next(((one.number, naive_part_of(one.clause, clause)) for one in rows
                             if naive_part_of(one.clause, clause) is not None), None)
            self.assertEqual(None if found is None else (found[0], (list(found[1].items()), found[2])), expected)
            many += found is not None
        self.assertGreater(many, 200)


class LighterTest(unittest.TestCase):
    def check(self, clause, other, first, second):
        self.assertIs(is_lighter(clause, other), first)
        self.assertIs(is_lighter(other, clause), second)

    def test_fewer_literals(self):
        self.check((), (yes(q()),), True, False)
        self.check((yes(p(f(f(f(A))))),), (yes(q()), yes(p(A))), True, False)
        self.check((yes(p(A, A, A, A)),), (eq(0, 1), eq(2, 3)), True, False)

    def test_a_smaller_size(self):
        self.check((yes(p(A)),), (yes(p(f(A))),), True, False)
        self.check((yes(p(A)),), (yes(p(0, 1)),), True, False)
        self.check((eq(A, f(B)), no(q())), (no(p(0)), yes(p(1, 2))), True, False)

    def test_more_different_variables(self):
        self.check((yes(p(0)),), (yes(p(A)),), True, False)
        self.check((yes(p(0, 1)),), (yes(p(0, 0)),), True, False)
        self.check((yes(p(0, 1)), no(q(0))), (yes(p(0, 1)), no(q(2))), False, True)

    def test_equal_in_all_of_them(self):
        self.check((), (), False, False)
        self.check((yes(p(0)),), (no(q(3)),), False, False)
        self.check((eq(f(A), B),), (eq(A, g(B)),), False, False)
