import copy
import random
import unittest

from lastproof.errors import LastproofError, NoLiteral, NotWaiting, OutOfRange
from lastproof.reasoner.conclusions import Active
from lastproof.reasoner.kept import Gone, Kept
from lastproof.reasoner.reasoner import Reasoner, gone_by
from lastproof.terms.substitutions import put_clause
from tests.clause_samples import A, B, C, F, NAMES, Compared, clause, given_of, text_of
from tests.plain_conclusions import small_clause
from tests.plain_reasoner import PlainReasoner, change_tuple, plain_state, state_of
from tests import samples

a, b, c = (A, ()), (B, ()), (C, ())


def f(term):
    return (F, (term,))


class ReasonerTest(unittest.TestCase):
    def made(self, rows, weights=()):
        return Compared(self, rows, weights)

    def engine(self, rows, weights=()):
        return self.made(rows, weights).engine


class TakingTest(ReasonerTest):
    def test_an_empty_reasoner(self):
        for rows in [{}, {4: []}]:
            engine = self.engine(rows)
            self.assertEqual((engine.weights, engine.given, engine.next_number, engine.choices), ({}, rows, 0, 0))
            self.assertEqual((engine.waiting, engine.chosen, engine.gone, engine.everything()), ([], [], [], []))
            self.assertEqual((engine.status(), engine.suggestion(), engine.run(1000)), ("saturated", None, "saturated"))

    def test_given_clauses_wait(self):
        made = self.made({7: ["p(a)", "not q(b)"], 3: ["f(?0) = ?0"]})
        self.assertEqual(made.waiting(), [(0, "p(a)"), (1, "not q(b)"), (2, "f(?0) = ?0")])
        self.assertEqual([kept.made for kept in made.engine.waiting], [("given", 7, 0), ("given", 7, 1), ("given", 3, 0)])
        for kept in made.engine.waiting:
            self.assertIs(type(kept), Kept)
            self.assertEqual((kept.selected, kept.changes), (None, []))
        self.assertEqual((made.engine.next_number, made.engine.status()), (3, "open"))

    def test_given_clauses_are_settled(self):
        made = self.made({0: ["p(?4, ?2) or a != a", "q(?1) or q(?1) or p(?0)"]})
        self.assertEqual(made.waiting(), [(0, "p(?0, ?1)"), (1, "q(?0) or p(?1)")])
        self.assertEqual([kept.changes for kept in made.engine.waiting], [
            [("cleaned",), ("renumbered", {4: 0, 2: 1})], [("cleaned",), ("renumbered", {1: 0, 0: 1})]])

    def test_a_clause_that_always_holds_is_not_kept(self):
        made = self.made({0: ["p(?0) or not p(?0)", "a = a", "?0 != ?0 or p(b)", "b = c or c != b"]})
        self.assertEqual(made.waiting(), [(0, "p(b)")])
        self.assertEqual((made.engine.next_number, made.engine.gone), (1, []))

    def test_a_clause_with_a_waiting_part_is_not_kept(self):
        made = self.made({0: ["p(?0) or q(a)"], 1: ["q(a) or p(b) or r(c)", "p(?3)", "q(?0) or p(?1)"]})
        # A clause that waits already stays, also if a later one is a part of it.
        self.assertEqual(made.waiting(), [(0, "p(?0) or q(a)"), (1, "p(?0)")])
        self.assertEqual(made.engine.next_number, 2)

    def test_a_clause_with_a_chosen_part_is_not_kept(self):
        made = self.made({0: ["p(?0) or q(?0)"]})
        # Nothing waits after the choice, so the given clause is taken once more.
        self.assertEqual(made.choose(0), [])
        self.assertEqual((made.waiting(), made.chosen()), ([], [(0, "p(?0) or q(?0)", None)]))
        self.assertEqual((made.engine.next_number, made.engine.status()), (1, "saturated"))

    def test_a_new_clause_is_settled_by_chosen_clauses(self):
        made = self.made({0: ["f(?0) = ?0"], 1: ["g(f(a)) = c or p(b)"], 2: ["not p(b)"]})
        made.choose_all((0, None), (2, 0))
        self.assertEqual(made.choose(1), [3])
        # The settled clause is chosen, superposition into not p(b) is not possible since it is not greatest.
        self.assertEqual(made.chosen(), [(0, "f(?0) = ?0", None), (2, "not p(b)", 0), (3, "g(a) = c or p(b)", None)])

    def test_what_made_a_clause(self):
        made = self.made({0: ["not p(?0) or q(f(?0))"], 1: ["p(a)"], 2: ["?0 != ?1 or r(a)"], 3: ["p(?0) or p(b)"]})
        self.assertEqual(made.choose(0, 0), [])
        self.assertEqual(made.choose(1), [4])
        kept = made.engine.find(4)
        self.assertEqual(text_of(kept.clause), "q(f(a))")
        kind, number, other, conclusion = kept.made
        self.assertEqual((kind, number, other, conclusion.kind), ("superposed", 0, 1, "superposition"))
        self.assertEqual(text_of(conclusion.clause), "not # or q(f(a))")
        self.assertEqual(kept.changes, [("cleaned",)])
        self.assertEqual(made.choose(2, 0), [5])
        kind, number, conclusion = made.engine.find(5).made
        self.assertEqual((kind, number, conclusion.kind, text_of(conclusion.clause)), ("resolved", 2, "resolution", "r(a)"))
        self.assertEqual(made.choose(3), [6, 7])
        kind, number, conclusion = made.engine.find(6).made
        self.assertEqual((kind, number, conclusion.kind, text_of(conclusion.clause)),
                         ("factored", 3, "factoring", "not # or p(b)"))

    def test_arguments_are_copied(self):
        weights, given = {A: 3}, given_of({0: ["p(a)"]})
        engine = Reasoner(weights, given)
        weights.clear()
        given[0].clear()
        given.clear()
        self.assertEqual((engine.weights, engine.given), ({A: 3}, given_of({0: ["p(a)"]})))
        engine.everything().clear()
        self.assertEqual(len(engine.everything()), 1)


class ChoosingTest(ReasonerTest):
    def test_a_clause_that_settling_does_not_change(self):
        made = self.made({0: ["not p(?0) or not q(?0)"], 1: ["p(a)"]})
        kept = made.engine.find(0)
        self.assertEqual(made.choose(0, 1), [])
        self.assertEqual(made.chosen(), [(0, "not p(?0) or not q(?0)", 1)])
        self.assertEqual(made.waiting(), [(1, "p(a)")])
        self.assertEqual((kept.selected, made.engine.find(0).selected), (None, 1))
        self.assertEqual((made.engine.find(0).made, made.engine.gone), (("given", 0, 0), []))

    def test_a_clause_that_settling_changes(self):
        made = self.made({0: ["not p(f(a)) or r(a)"], 1: ["f(?0) = ?0"], 2: ["q(b)"]})
        made.choose(1)
        self.assertEqual(made.choose(0, 0), [3])
        self.assertEqual(made.chosen(), [(1, "f(?0) = ?0", None), (3, "not p(a) or r(a)", 0)])
        new = made.engine.find(3)
        self.assertEqual((new.made, [change[:2] for change in new.changes]), (("copied", 0), [("rewritten", 1)]))
        gone = made.engine.gone[0]
        self.assertIs(type(gone), Gone)
        self.assertEqual((gone.kept.number, gone.kept.selected, gone.reason), (0, None, ("became", 3)))
        self.assertEqual([change_tuple(change) for change in gone.changes], [change_tuple(change) for change in new.changes])
        # The clause itself and what made it stay as they were.
        self.assertEqual((text_of(gone.kept.clause), gone.kept.changes), ("not p(f(a)) or r(a)", []))

    def test_gone_because_it_always_holds(self):
        made = self.made({0: ["p(b) or g(f(a)) = g(a)"], 1: ["f(?0) = ?0"], 2: ["q(b)"]})
        made.choose(1)
        self.assertEqual(made.choose(0), [])
        self.assertEqual(made.gone(), [(0, ("holds", 1, 1))])
        self.assertEqual([change[:2] for change in made.engine.gone[0].changes], [("rewritten", 1)])
        self.assertEqual(made.chosen(), [(1, "f(?0) = ?0", None)])
        made = self.made({0: ["p(f(a)) or not p(a) or p(f(b))"], 1: ["f(?0) = ?0"], 2: ["q(b)"]})
        made.choose_all((1, None), (0, None))
        self.assertEqual(made.gone(), [(0, ("holds", 0, 1))])
        self.assertEqual([change[0] for change in made.engine.gone[0].changes], ["rewritten", "rewritten"])

    def test_gone_because_a_chosen_clause_is_a_part(self):
        made = self.made({0: ["p(f(b)) or q(c)"], 1: ["q(?0)"], 2: ["p(f(?0)) or r(?1)", "p(?0) or r(c)"], 3: ["r(b)"]})
        made.choose_all((2, None), (3, None), (1, None))
        self.assertEqual(made.gone(), [])
        self.assertEqual(made.choose(0), [])
        # The unit rewrites, so the clause always holds. Without it the first part among several counts.
        self.assertEqual(made.gone(), [(0, ("holds", 1, 1))])
        made = self.made({0: ["p(f(b)) or r(b) or r(c)"], 2: ["p(f(?0)) or r(?1)", "p(?0) or r(c)"], 3: ["q(b)"]})
        self.assertEqual([number for number, _ in made.waiting()], [0, 1, 2, 3])
        made.choose_all((2, None), (1, None), (0, None))
        self.assertEqual(made.gone(), [(0, ("part", 2, {0: f(b)}, (0, 2)))])
        self.assertEqual(made.engine.gone[0].changes, [])

    def test_gone_as_a_part_behind_changes(self):
        made = self.made({0: ["p(f(a)) or q(b)"], 1: ["p(?0) or q(?0)"], 2: ["f(?0) = b"], 3: ["r(a)"]})
        made.choose_all((2, None), (1, None), (0, None))
        self.assertEqual(made.gone(), [(0, ("part", 1, {0: b}, (0, 1)))])
        self.assertEqual([change[:2] for change in made.engine.gone[0].changes], [("rewritten", 2)])

    def test_the_selected_literal_of_a_changed_clause(self):
        rows = {0: ["f(a) != a or not p(b) or not q(b)"], 1: ["f(?0) = ?0"], 2: ["r(a)"]}
        for literal, selected in [(0, 0), (1, 1), (2, None), (None, None)]:
            made = self.made(rows)
            made.choose(1)
            self.assertEqual(made.choose(0, literal), [3])
            self.assertEqual(made.chosen()[1], (3, "not p(b) or not q(b)", selected))
        # A literal that is positive in the chosen clause.
        made = self.made({0: ["f(a) != a or p(b) or not q(b)"], 1: ["f(?0) = ?0"], 2: ["r(a)"]})
        made.choose(1)
        made.choose(0, 0)
        self.assertEqual(made.chosen()[1], (3, "p(b) or not q(b)", None))

    def test_an_earlier_clause_goes_because_of_a_lighter_part(self):
        made = self.made({0: ["p(a) or q(?0)"], 1: ["p(?0) or q(f(?1))"], 2: ["p(?0) or q(?1)"], 3: ["r(a)"]})
        made.choose_all((0, None), (1, None))
        self.assertEqual(made.choose(2), [])
        self.assertEqual(made.gone(), [(0, ("part", 2, {0: a, 1: 0}, (0, 1))), (1, ("part", 2, {0: 0, 1: f(1)}, (0, 1)))])
        self.assertEqual([gone.changes for gone in made.engine.gone], [[], []])
        self.assertEqual(made.chosen(), [(2, "p(?0) or q(?1)", None)])

    def test_an_earlier_clause_is_rewritten(self):
        made = self.made({0: ["not p(f(?0)) or q(?0) or q(f(b))"], 1: ["f(?0) = ?0"], 2: ["r(a)"]})
        made.choose(0, 0)
        self.assertEqual(made.choose(1), [3])
        self.assertEqual(made.gone(), [(0, ("again",))])
        gone = made.engine.gone[0]
        self.assertEqual(gone.kept.selected, 0)
        # One rewriting belongs to the choice, all others are changes of settling the new clause.
        first = clause("not p(?0) or q(?0) or q(f(b))")
        second = clause("not p(?0) or q(?0) or q(b)")
        self.assertEqual([change_tuple(change) for change in gone.changes], [
            ("rewritten", 1, (first, 0, 0, (0,), 0, [(0, 0)]))])
        new = made.engine.find(3)
        self.assertEqual((new.made, new.clause, new.selected), (("copied", 0), second, None))
        self.assertEqual([change_tuple(change) for change in new.changes], [
            ("rewritten", 1, (first, 0, 0, (0,), 0, [(0, 0)])), ("rewritten", 1, (second, 2, 0, (0,), 0, [(0, b)]))])
        self.assertEqual((made.waiting(), made.chosen()), ([(2, "r(a)"), (3, text_of(second))], [(1, "f(?0) = ?0", None)]))

    def test_a_part_is_not_rewritten(self):
        # The new clause is a part of the earlier one and rewrites it: being a part comes first.
        made = self.made({0: ["f(f(?0)) = f(?0) or q(a)"], 1: ["f(?0) = ?0"], 2: ["r(a)"]})
        made.choose_all((0, None), (1, None))
        self.assertEqual(made.gone(), [(0, ("part", 1, {0: f(0)}, (0,)))])

    def test_a_part_that_is_not_lighter(self):
        # Such a new clause is another form of the earlier one, which is a part of it, too. So a choice ends in step 2
        # before the earlier clause is looked at, and the rule is tested by itself.
        made = self.made({0: ["p(?0) or q(?1)"], 1: ["r(a)"]})
        made.choose(0)
        for text in ["p(?0) or q(?1)", "q(?0) or p(?1)"]:
            new = Active({}, Kept(9, clause(text), None, ("given", 0, 0), []))
            self.assertIsNone(gone_by(new, made.engine.active[0]))
        made = self.made({0: ["f(?0) = g(?0)"], 1: ["r(a)"]})
        made.choose(0)
        new = Active({}, Kept(9, clause("g(?0) = f(?0)"), None, ("given", 0, 0), []))
        self.assertIsNone(gone_by(new, made.engine.active[0]))
        # A lighter one of the same number of literals, by its size and by its variables.
        for text, other in [("p(?0)", "p(f(?0))"), ("p(?0, ?1)", "p(?0, ?0)"), ("p(?0)", "p(a)")]:
            made = self.made({0: [other], 1: ["r(a)"]})
            made.choose(0)
            new = Active({}, Kept(9, clause(text), None, ("given", 0, 0), []))
            self.assertEqual(gone_by(new, made.engine.active[0]).reason[:2], ("part", 9))

    def test_several_earlier_clauses_and_the_order_of_new_ones(self):
        made = self.made({0: ["not p(f(a))"], 1: ["f(b) = b or q(a)"], 2: ["not q(f(c))"], 3: ["not r(a)"], 4: ["f(?0) = ?0"],
                          5: ["r(b)"]})
        made.choose_all((0, 0), (1, None), (2, 0), (3, 0))
        self.assertEqual(made.choose(4), [6, 7])
        self.assertEqual([(number, reason[0]) for number, reason in made.gone()], [(0, "again"), (1, "part"), (2, "again")])
        self.assertEqual(made.waiting(), [(5, "r(b)"), (6, "not p(a)"), (7, "not q(c)")])
        self.assertEqual(made.chosen(), [(3, "not r(a)", 0), (4, "f(?0) = ?0", None)])

    def test_the_order_in_which_conclusions_are_taken(self):
        # Resolutions, factorings, then superpositions with each chosen clause in both directions.
        made = self.made({0: ["not p(?0) or q(?0)"], 1: ["f(a) = b or q(a)"], 2: ["p(f(?0)) or p(f(a))"]})
        made.choose_all((0, 0), (1, None))
        rows = [(made.engine.find(number).made[:-1], text_of(made.engine.find(number).clause)) for number in made.choose(2)]
        self.assertEqual(rows, [
            (("factored", 2), "p(f(a))"), (("superposed", 0, 2), "q(f(a)) or p(f(?0))"),
            (("superposed", 2, 1), "p(f(?0)) or p(b) or q(a)")])
        made = self.made({0: ["f(a) = b or q(c)"], 1: ["g(?0) != g(f(?1)) or p(?0)"], 2: ["g(f(b)) = a or q(c)"]})
        made.choose_all((0, None), (2, None))
        rows = [made.engine.find(number).made[:-1] for number in made.choose(1, 0)]
        self.assertEqual(rows, [("resolved", 1), ("superposed", 1, 0), ("superposed", 1, 2)])

    def test_superpositions_with_itself_and_in_both_directions(self):
        made = self.made({0: ["f(f(?0)) = g(?0)"]})
        self.assertEqual(made.choose(0), [1])
        self.assertEqual((made.engine.find(1).made[:-1], made.waiting()), (("superposed", 0, 0), [(1, "f(g(?0)) = g(f(?0))")]))
        made = self.made({0: ["f(g(?0)) = a or p(b)"], 1: ["g(f(?0)) = b or p(a)"]})
        made.choose(0)
        self.assertEqual(made.choose(1), [2, 3])
        self.assertEqual([made.engine.find(k).made[:-1] for k in (2, 3)], [("superposed", 1, 0), ("superposed", 0, 1)])

    def test_a_choice_without_new_clauses(self):
        made = self.made({0: ["p(a)"], 1: ["q(a)"]})
        self.assertEqual(made.choose(0), [])
        self.assertEqual(made.choose(1), [])

    def test_the_empty_clause(self):
        made = self.made({0: ["not p(a)"], 1: ["p(?0)"], 2: ["q(a)"]})
        made.choose(0)
        self.assertEqual(made.choose(1), [3])
        self.assertEqual(made.waiting(), [(2, "q(a)"), (3, "[]")])
        self.assertEqual(made.engine.status(), "refuted")
        # Choosing goes on: the empty clause is a part of all others.
        self.assertEqual(made.choose(3), [])
        self.assertEqual(made.chosen(), [(3, "[]", None)])
        self.assertEqual(made.choose(2), [])
        self.assertEqual(made.gone()[-1], (2, ("part", 3, {}, ())))
        self.assertEqual((made.engine.status(), made.waiting()), ("refuted", []))


class AgainTest(ReasonerTest):
    """Step 6: the given clauses and all conclusions once more."""

    def test_a_given_clause_is_kept_once_more(self):
        made = self.made({0: ["?0 = f(b)"], 1: ["not p(f(?2)) or q(g(a))"]})
        made.choose_all((1, 0), (0, None), (3, None))
        self.assertEqual(made.waiting(), [(2, "not p(f(?0)) or q(f(b))")])
        # Nothing waits behind this choice but what is taken once more.
        self.assertEqual(made.choose(2, 0), [4, 5])
        self.assertEqual(made.waiting(), [(5, "not p(f(?0)) or q(g(a))")])
        self.assertEqual(made.engine.find(5).made, ("given", 1, 0))
        self.assertEqual(made.engine.find(5).changes, [("renumbered", {2: 0})])
        self.assertEqual(made.engine.status(), "open")

    def test_also_if_the_choice_ended_in_step_2(self):
        made = self.made({0: ["not p(f(b)) or p(g(b)) or g(a) != f(?2)"],
                          1: ["p(?2) or b = g(a, ?0) or f(?1, a) = g(a)"], 2: ["f(a) = ?1"]})
        made.choose_all((0, 0), (2, None), (3, None))
        self.assertEqual(made.waiting(), [(1, "p(?0) or b = g(a, ?1) or f(?2, a) = g(a)")])
        number = made.engine.next_number
        self.assertEqual(made.choose(1), [number])
        self.assertEqual((made.gone()[-1][0], made.gone()[-1][1][0]), (1, "part"))
        self.assertEqual(made.waiting(), [(number, "not p(f(b)) or p(g(b)) or g(a) != f(?0)")])
        self.assertEqual(made.engine.find(number).made, ("given", 0, 0))

    def test_a_conclusion_is_kept_once_more(self):
        made = self.made({0: ["p(f(b)) or f(b, ?1) != f(?0)"], 1: ["a = f(a) or f(a) = ?2"]})
        made.choose_all((1, None), (2, None), (3, 1), (4, None), (0, None), (6, None))
        # When 0 was chosen, a superposition of 2 into it had 4 as a part; 4 is gone because of 6.
        self.assertEqual(made.waiting(), [(5, "a != ?0 or ?1 = ?0 or a != ?1")])
        self.assertEqual(made.choose(5, 2), [7])
        self.assertEqual(made.waiting(), [(7, "p(f(b)) or f(b, ?0) != a or a != f(?1)")])
        self.assertEqual(made.engine.find(7).made[:-1], ("superposed", 0, 2))

    def test_what_is_taken_once_more_and_in_which_order(self):
        class Watched(Reasoner):
            def take(self, clause, made, changes):
                if not self.waiting:
                    seen.append(made if made[0] == "given" else made[:-1])
                super().take(clause, made, changes)

        seen = []
        engine = Watched({}, given_of({
            3: ["r(?0, a) or r(b, ?1)"], 1: ["f(?0) != f(a) or q(?0, ?1)"], 2: ["not r(?0, ?1) or p(?0, ?1)"]}))
        while engine.waiting:
            seen.clear()
            kept = engine.waiting[0]
            negated = [k for k, literal in enumerate(kept.clause) if not literal[0]]
            engine.choose(kept.number, negated[0] if negated else None)
        # The last choice ends with what is taken once more.
        start = max(k for k, made in enumerate(seen) if made == ("given", 3, 0))
        again = seen[start:]
        self.assertEqual(again[:3], [("given", 3, 0), ("given", 1, 0), ("given", 2, 0)])
        plain = [made for made in again[3:] if made[0] != "superposed"]
        chosen = [kept.number for kept in engine.chosen]
        self.assertEqual(plain, sorted(plain, key=lambda made: (chosen.index(made[1]), made[0] == "factored")))
        self.assertEqual({made[0] for made in plain}, {"resolved", "factored"})
        pairs = [tuple(sorted((chosen.index(made[1]), chosen.index(made[2])))) for made in again if made[0] == "superposed"]
        self.assertEqual(pairs, sorted(pairs))
        self.assertGreater(len(pairs), 0)

    def test_random_reasoners_reach_it(self):
        # Compared with the plain reasoner, which takes all pairs in both directions.
        source = random.Random(846)
        reached = 0
        for _ in range(80):
            rows = {k: [small_clause(source, depth=1, positive=0.7)] for k in range(source.choice([1, 2, 2, 3]))}
            engine, plain = Reasoner({}, rows), PlainReasoner({}, rows)
            for _ in range(8):
                if not engine.waiting or max(len(kept.clause) for kept in engine.waiting) > 3:
                    break
                before = len(engine.waiting)
                kept = source.choice(engine.waiting)
                self.assertEqual(engine.choose(kept.number, None), plain.choose(kept.number, None))
                self.assertEqual(state_of(engine), plain_state(plain))
                reached += before == 1
        self.assertGreater(reached, 15)


class ErrorsTest(ReasonerTest):
    def check(self, made, number, literal, error, field, value):
        before = copy.deepcopy(state_of(made.engine))
        with self.assertRaises(error) as caught:
            made.engine.choose(number, literal)
        self.assertEqual(getattr(caught.exception, field), value)
        self.assertIsInstance(caught.exception, LastproofError)
        self.assertEqual(state_of(made.engine), before)
        made.agree()

    def test_not_waiting(self):
        made = self.made({0: ["not p(f(a))"], 1: ["f(?0) = ?0"], 2: ["q(a)"]})
        made.choose_all((1, None), (0, 0))
        # The clauses 1 and 3 are chosen, 0 is gone, 4 and -1 are unknown.
        for number in (1, 3, 0, 4, -1):
            for literal in (None, 0, 7, -1):
                self.check(made, number, literal, NotWaiting, "number", number)

    def test_no_literal(self):
        made = self.made({0: ["p(a) or not q(b) or b != c"], 1: ["p(?0)"], 2: ["[]"]})
        for literal in (-1, 0, 3, 4, 100, -2, -3):
            self.check(made, 0, literal, NoLiteral, "literal", literal)
        self.check(made, 1, 0, NoLiteral, "literal", 0)
        for literal in (0, -1):
            self.check(made, 2, literal, NoLiteral, "literal", literal)
        made.choose(0, 2)
        self.assertEqual(made.chosen(), [(0, "p(a) or not q(b) or b != c", 2)])

    def test_the_literal_of_the_clause_as_it_waits(self):
        # The index 2 exists in the waiting clause, not in the settled one.
        made = self.made({0: ["f(a) != a or p(b) or not q(b)"], 1: ["f(?0) = ?0"], 2: ["r(a)"]})
        made.choose(1)
        self.check(made, 0, 1, NoLiteral, "literal", 1)
        self.assertEqual(made.choose(0, 2), [3])
        self.assertEqual(made.chosen()[1][2], None)

    def test_run_out_of_range(self):
        made = self.made({0: ["p(a)"]})
        for count in (-1, 1001, 5000, -1000):
            with self.assertRaises(OutOfRange) as caught:
                made.engine.run(count)
            self.assertEqual(caught.exception.name, "count")
        made.agree()


class SuggestionTest(ReasonerTest):
    def test_the_least_weight_and_the_first_one_among_several(self):
        rows = {0: ["p(f(a))", "q(b)", "r(a)", "q(c)"]}
        self.assertEqual(self.engine(rows).suggestion(), (1, None))
        self.assertEqual(self.engine(rows, {B: 2}.items()).suggestion(), (2, None))
        self.assertEqual(self.engine(rows, {B: 2, A: 3}.items()).suggestion(), (3, None))
        # TRUTH counts, and so does every literal.
        self.assertEqual(self.engine({0: ["p(a)", "a = b"]}).suggestion(), (1, None))
        self.assertEqual(self.engine({0: ["p(a) or q(b)", "p(f(f(b)))"]}).suggestion(), (1, None))
        self.assertEqual(self.engine({0: ["p(?0, ?0)", "p(a)"]}, {A: 4}.items()).suggestion(), (0, None))

    def test_the_first_waiting_clause_at_each_fifth_choice(self):
        made = self.made({0: ["p(f(f(f(a))))", "p(f(f(b)))", "q(a)", "q(b)", "q(c)", "r(a)", "r(b)", "r(c)", "r(f(a))"]})
        seen = []
        for _ in range(9):
            seen.append(made.engine.suggestion()[0])
            made.choose(seen[-1])
        self.assertEqual(seen, [2, 3, 4, 5, 0, 6, 7, 8, 1])

    def test_choices_that_end_in_step_2_count(self):
        made = self.made({0: ["f(?0) = ?0"], 1: ["f(f(a)) = a or q(a)", "f(f(b)) = b or q(b)", "f(f(f(c))) = c"],
                          2: ["p(f(f(f(a))))", "q(a)"]})
        self.assertEqual(made.engine.choices, 0)
        made.choose_all((0, None), (1, None), (2, None), (3, None))
        self.assertEqual([reason[0] for _, reason in made.gone()], ["holds", "holds", "part"])
        self.assertEqual((made.engine.choices, made.engine.suggestion()), (4, (4, None)))
        made.choose(5)
        self.assertEqual((made.engine.choices, made.engine.suggestion()), (5, (4, None)))

    def test_the_negated_literal_of_the_greatest_weight(self):
        self.assertEqual(self.engine({0: ["p(f(f(a))) or not q(a) or not p(f(b)) or a != b"]}).suggestion(), (0, 2))
        self.assertEqual(self.engine({0: ["not q(a) or not p(b) or b != f(c)"]}).suggestion(), (0, 0))
        self.assertEqual(self.engine({0: ["not q(a) or not p(b) or b != f(c)"]}, {B: 2}.items()).suggestion(), (0, 1))
        self.assertEqual(self.engine({0: ["not q(a) or not p(b) or b != f(c)"]}, {F: 2}.items()).suggestion(), (0, 2))
        self.assertEqual(self.engine({0: ["p(a) or q(a)"]}).suggestion(), (0, None))
        self.assertEqual(self.engine({0: ["[]"]}).suggestion(), (0, None))


class StatusTest(ReasonerTest):
    def test_an_empty_clause_that_waits_and_one_that_is_chosen(self):
        made = self.made({0: ["[]"], 1: ["p(a)"]})
        self.assertEqual((made.engine.status(), made.waiting()), ("refuted", [(0, "[]")]))
        self.assertEqual(made.choose(0), [])
        self.assertEqual((made.engine.status(), made.waiting(), made.chosen()), ("refuted", [], [(0, "[]", None)]))

    def test_nothing_waits(self):
        made = self.made({0: ["p(a)"]})
        self.assertEqual(made.engine.status(), "open")
        made.choose(0)
        self.assertEqual(made.engine.status(), "saturated")

    def test_run(self):
        rows = {0: ["not p(?0) or p(f(?0))"], 1: ["p(a)"], 2: ["not p(f(f(f(a))))"]}
        engine = self.engine(rows)
        self.assertEqual(engine.run(0), "open")
        self.assertEqual(engine.choices, 0)
        self.assertEqual(engine.run(2), "open")
        self.assertEqual(engine.choices, 2)
        self.assertEqual(engine.run(1000), "refuted")
        choices = engine.choices
        self.assertEqual((engine.run(1000), engine.choices), ("refuted", choices))
        plain = PlainReasoner({}, given_of(rows))
        while plain.status() == "open":
            plain.choose(*plain.suggestion())
        self.assertEqual(state_of(engine), plain_state(plain))

    def test_run_stops_when_it_is_saturated(self):
        engine = self.engine({0: ["p(a)", "q(b)"]})
        self.assertEqual((engine.run(1), engine.run(1), engine.run(1)), ("open", "saturated", "saturated"))
        self.assertEqual(engine.choices, 2)


class TurningTest(ReasonerTest):
    ROWS = {0: ["not p(?0) or q(?0)"], 1: ["p(a)"], 2: ["p(b)"], 3: ["not q(?0) or r(?0)"]}

    def turned(self, rows, weights=()):
        made = self.made(self.ROWS)
        made.choose_all((0, 0), (1, None), (2, None), (3, 0), (4, None))
        self.assertEqual(made.waiting(), [(5, "q(b)"), (6, "r(a)")])
        made.turn(rows, weights)
        return made

    def test_nothing_is_left_out(self):
        made = self.turned(self.ROWS)
        self.assertEqual([number for number, _ in made.waiting()], [0, 1, 2, 3, 4, 5, 6])
        self.assertEqual((made.chosen(), made.gone(), made.engine.next_number, made.engine.choices), ([], [], 7, 5))
        self.assertEqual([kept.selected for kept in made.engine.waiting], [None] * 7)

    def test_an_axiom_that_is_left_out(self):
        rows = {k: self.ROWS[k] for k in (0, 2, 3)}
        made = self.turned(rows)
        # q(a) rests on two axioms and r(a) on three: one of them is missing.
        self.assertEqual(made.waiting(), [(0, "not p(?0) or q(?0)"), (2, "p(b)"), (3, "not q(?0) or r(?0)"), (5, "q(b)")])
        self.assertIsNone(made.engine.find(1))
        self.assertIsNone(made.engine.find(4))
        self.assertEqual((made.engine.next_number, made.engine.choices), (7, 5))
        self.assertEqual(made.engine.given, given_of(rows))

    def test_all_axioms_are_left_out(self):
        made = self.turned({})
        self.assertEqual((made.engine.everything(), made.engine.next_number, made.engine.choices), ([], 7, 5))
        self.assertEqual(made.engine.status(), "saturated")

    def test_an_axiom_that_is_added(self):
        made = self.turned({**self.ROWS, 9: ["not r(a)", "p(b) or q(a)"], 4: ["r(c)"]})
        self.assertEqual(made.waiting()[7:], [(7, "not r(a)"), (8, "r(c)")])
        self.assertEqual([kept.made for kept in made.engine.waiting[7:]], [("given", 9, 0), ("given", 4, 0)])

    def test_an_axiom_that_gets_other_clauses(self):
        # Its key stays, so what rests on it stays; its clauses are taken.
        made = self.turned({**self.ROWS, 1: ["p(c)", "p(a)"]})
        self.assertEqual(made.waiting()[6:], [(6, "r(a)"), (7, "p(c)")])
        self.assertEqual(made.engine.find(7).made, ("given", 1, 0))

    def test_the_order_of_the_dict(self):
        made = self.made({})
        made.turn({5: ["p(b)"], 2: ["p(a)", "q(a)"]})
        self.assertEqual([kept.made for kept in made.engine.waiting], [("given", 5, 0), ("given", 2, 0), ("given", 2, 1)])

    def test_gone_clauses_wait_again(self):
        made = self.made({0: ["not p(f(a))"], 1: ["f(?0) = ?0"], 2: ["p(?0) or q(?0)"], 3: ["f(f(b)) = b or q(a)"]})
        made.choose_all((0, 0), (1, None), (3, None), (4, 0), (2, None))
        self.assertEqual([(number, reason[0]) for number, reason in made.gone()], [(0, "again"), (3, "holds")])
        made.turn({0: ["not p(f(a))"], 1: ["f(?0) = ?0"], 2: ["p(?0) or q(?0)"], 3: ["f(f(b)) = b or q(a)"]})
        numbers = [number for number, _ in made.waiting()]
        self.assertEqual(numbers, list(range(made.engine.next_number)))
        self.assertEqual((made.chosen(), made.gone()), ([], []))
        # Without the equation, the clause that it rewrote goes, and so does what was made of that clause.
        made.turn({0: ["not p(f(a))"], 2: ["p(?0) or q(?0)"], 3: ["f(f(b)) = b or q(a)"]})
        self.assertEqual(made.waiting()[:3], [(0, "not p(f(a))"), (2, "p(?0) or q(?0)"), (3, "f(f(b)) = b or q(a)")])
        self.assertIsNone(made.engine.find(4))

    def test_a_clause_that_was_rewritten_only_before_it_went_does_not_rest_on_the_equation(self):
        made = self.made({0: ["p(f(a)) or q(a)"], 1: ["f(?0) = ?0"], 2: ["r(b)"]})
        made.choose_all((1, None), (0, None))
        self.assertEqual(made.gone(), [(0, ("became", 3))])
        made.turn({0: ["p(f(a)) or q(a)"], 2: ["r(b)"]})
        self.assertEqual(made.waiting(), [(0, "p(f(a)) or q(a)"), (2, "r(b)")])

    def test_numbers_are_never_used_again(self):
        made = self.turned({})
        made.turn(self.ROWS)
        self.assertEqual([number for number, _ in made.waiting()], [7, 8, 9, 10])
        self.assertEqual([made.engine.find(k) for k in range(7)], [None] * 7)

    def test_the_weights_count_before_any_clause_is_taken(self):
        rows = {0: ["f(a) = g(b)"], 1: ["p(g(b))", "p(f(a))"]}
        made = self.made(rows)
        made.choose(0)
        self.assertEqual(made.waiting(), [(1, "p(g(b))"), (2, "p(f(a))")])
        made.turn(rows, {F: 9}.items())
        self.assertEqual(made.engine.weights, {F: 9})
        self.assertEqual(made.engine.suggestion(), (1, None))
        made.choose_all((0, None), (2, None))
        self.assertEqual(made.chosen()[-1], (3, "p(g(b))", None))

    def test_after_a_turn_it_goes_on(self):
        made = self.turned({**self.ROWS, 7: ["not r(a)"]})
        self.assertEqual(made.engine.run(1000), "refuted")


class LookingTest(ReasonerTest):
    def test_find_and_everything(self):
        made = self.made({0: ["not p(f(a))"], 1: ["f(?0) = ?0"], 2: ["q(a)"]})
        made.choose_all((1, None), (0, 0))
        engine = made.engine
        self.assertEqual([kept.number for kept in engine.everything()], [0, 1, 2, 3])
        self.assertEqual([kept.number for kept in engine.waiting + engine.chosen] + [gone.kept.number for gone in engine.gone],
                         [2, 1, 3, 0])
        for number in range(4):
            self.assertEqual(engine.find(number).number, number)
            self.assertIs(engine.find(number), engine.everything()[number])
        self.assertIsNone(engine.find(4))
        self.assertIsNone(engine.find(-1))


class WholeTest(unittest.TestCase):
    def test_against_the_words_of_the_document(self):
        source = random.Random(84)
        counts = {}
        for _ in range(150):
            weights = source.choice([{}, {samples.F: 2}, {samples.A[0]: 3, samples.G: 2}])
            given = {k: self.random_clauses(source) for k in source.sample(range(6), source.choice([1, 2, 3]))}
            engine, plain = Reasoner(weights, given), PlainReasoner(weights, given)
            for step in range(source.choice([4, 8, 14])):
                self.assertEqual(state_of(engine), plain_state(plain))
                self.assertEqual((engine.status(), engine.suggestion()), (plain.status(), plain.suggestion()))
                if max([len(kept.clause) for kept in engine.waiting], default=0) > 4:
                    break
                if source.random() < 0.1 or not engine.waiting:
                    given = {k: given[k] for k in given if source.random() < 0.7}
                    given[10 + step] = self.random_clauses(source)
                    engine.turn(weights, given)
                    plain.turn(weights, given)
                else:
                    number, literal = self.random_choice(source, engine)
                    self.assertEqual(engine.choose(number, literal), plain.choose(number, literal))
            for gone in engine.gone:
                counts[gone.reason[0]] = counts.get(gone.reason[0], 0) + 1
            for kept in engine.everything():
                counts[kept.made[0]] = counts.get(kept.made[0], 0) + 1
        for word in ("holds", "part", "became", "again", "given", "copied", "superposed", "resolved", "factored"):
            self.assertGreater(counts.get(word, 0), 0, word)

    def random_clauses(self, source):
        found = [small_clause(source, positive=source.choice([0.5, 0.7, 0.9]), depth=1) for _ in range(source.choice([1, 2]))]
        if source.random() < 0.4:
            found = [put_clause(one, {0: samples.A, 1: samples.B, 2: samples.H}) for one in found]
        return found

    def random_choice(self, source, engine):
        if source.random() < 0.5:
            return engine.suggestion()
        kept = source.choice(engine.waiting)
        return kept.number, source.choice([None] + [k for k, one in enumerate(kept.clause) if not one[0]])

    def test_clauses_without_variables_end(self):
        source = random.Random(88)
        ends = []
        for _ in range(60):
            given = {k: [put_clause(small_clause(source, positive=0.6), {0: samples.A, 1: samples.B, 2: samples.H})]
                     for k in range(source.choice([6, 12, 18]))}
            engine = Reasoner({}, given)
            for _ in range(600):
                if not engine.waiting:
                    break
                kept = source.choice(engine.waiting)
                engine.choose(kept.number, source.choice([None] + [k for k, one in enumerate(kept.clause) if not one[0]]))
            self.assertEqual(engine.waiting, [])
            ends.append(engine.status())
            # The order of the choices does not change the end.
            other = Reasoner({}, given)
            self.assertEqual(other.run(1000), ends[-1])
        self.assertGreater(ends.count("refuted"), 5)
        self.assertGreater(ends.count("saturated"), 5)


class NamesTest(unittest.TestCase):
    def test_the_table_of_the_samples(self):
        self.assertEqual([NAMES[symbol[1]][1] for symbol in (F, A, B, C)], ["f", "a", "b", "c"])
