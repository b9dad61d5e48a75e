import random
import unittest

from lastproof.derivations.saturated import accepts_set, read_set, set_text, shows
from lastproof.errors import LastproofError, NoSet
from lastproof.formulas.meaning import clause_holds
from lastproof.formulas.worlds import World
from lastproof.reasoner.reasoner import Reasoner
from lastproof.terms.substitutions import put_clause
from tests import samples
from tests.clause_samples import A, F, NAMES, clause
from tests.formula_samples import tables_for, uses_of_clauses, ways
from tests.plain_conclusions import (
    naive_always, naive_factorings, naive_part_of, naive_resolutions, naive_settle, naive_superpositions, small_clause,
)


def pairs_of(*rows):
    """A set of rows: texts, or pairs of a text and an index."""
    return [(clause(row), None) if isinstance(row, str) else (clause(row[0]), row[1]) for row in rows]


def naive_shows(weights, pairs, one):
    settled, _ = naive_settle(weights, list(enumerate(each for each, _ in pairs)), one)
    return naive_always(settled) is not None or any(naive_part_of(each, settled) is not None for each, _ in pairs)


def naive_accepts(weights, pairs):
    for one, selected in pairs:
        if not one or selected is not None and (not 0 <= selected < len(one) or one[selected][0]):
            return False
    for one, selected in pairs:
        found = naive_resolutions(weights, one, selected) + naive_factorings(weights, one, selected)
        for other, other_selected in pairs:
            found += naive_superpositions(weights, one, selected, other, other_selected)
        if not all(naive_shows(weights, pairs, each[1]) for each in found):
            return False
    return True


class ShowsTest(unittest.TestCase):
    def check(self, pairs, text, result, weights=()):
        one = clause(text)
        before = list(pairs)
        self.assertIs(shows(dict(weights), pairs, one), result)
        self.assertEqual(pairs, before)
        self.assertEqual(naive_shows(dict(weights), pairs, one), result)

    def test_the_empty_set(self):
        self.check([], "p(a) or not p(a)", True)
        self.check([], "a = a", True)
        self.check([], "p(a)", False)
        self.check([], "[]", False)
        self.check([], "a != a", False)

    def test_a_part(self):
        pairs = pairs_of("q(a)", "p(?0) or r(?1)")
        self.check(pairs, "r(a) or q(b) or p(b)", True)
        self.check(pairs, "r(a) or q(b)", False)
        self.check(pairs, "p(?0) or r(?0)", True)
        self.check(pairs, "[]", False)
        self.check(pairs_of("[]"), "p(a)", True)
        self.check(pairs_of("[]"), "[]", True)

    def test_the_clause_is_settled_first(self):
        pairs = pairs_of("f(?0) = ?0", ("not p(a) or q(b)", 0))
        self.check(pairs, "not p(f(a)) or q(f(b))", True)
        self.check(pairs, "not p(f(b)) or q(f(b))", False)
        self.check(pairs, "g(f(a)) = g(a)", True)
        self.check(pairs, "f(a) != a", False)
        self.check(pairs, "not p(a) or q(b) or a != a", True)
        self.check(pairs_of("p(?0)"), "p(a)", True)
        self.check(pairs_of("p(?0)"), "not p(a)", False)

    def test_weights(self):
        # By one order the equation makes b of a, by the other one a of b.
        pairs = pairs_of("a = b", "p(a) or q(a)", "r(b) or q(b)")
        self.check(pairs, "p(b) or q(a) or r(a)", True)
        self.check(pairs, "r(a) or q(a) or r(c)", False)
        self.check(pairs, "r(a) or q(a) or r(c)", True, {A: 2}.items())


class AcceptsTest(unittest.TestCase):
    def check(self, pairs, result, weights=()):
        before = list(pairs)
        self.assertIs(accepts_set(dict(weights), pairs), result)
        self.assertEqual(pairs, before)
        self.assertEqual(naive_accepts(dict(weights), pairs), result)

    def test_sets_that_are_accepted(self):
        self.check([], True)
        self.check(pairs_of("p(a)"), True)
        self.check(pairs_of("p(a)", "not p(b)"), True)
        self.check(pairs_of("f(?0) = ?0", "p(a)"), True)
        self.check(pairs_of(("not p(?0) or q(?0)", 0), "p(a)", "q(a)"), True)
        self.check(pairs_of("p(?0) or not p(?0)"), True)
        self.check(pairs_of(("f(?0) = ?0 or a != b", 1)), True)

    def test_an_empty_clause(self):
        self.check(pairs_of("[]"), False)
        self.check(pairs_of("p(a)", "[]", "q(a)"), False)

    def test_indexes(self):
        for selected, result in [(None, True), (1, True), (2, True), (0, False), (3, False), (9, False), (-1, False), (-2, False)]:
            self.check([(clause("p(a) or not q(b) or not q(c)"), selected)], result)
        self.check(pairs_of(("p(a)", 0)), False)
        self.check(pairs_of(("[]", 0)), False)

    def test_a_set_that_lacks_a_conclusion(self):
        # A superposition, in both directions; a resolution; a factoring; a superposition of a clause into itself.
        self.check(pairs_of(("not p(?0) or q(?0)", 0), "p(a)"), False)
        self.check(pairs_of("p(a)", ("not p(?0) or q(?0)", 0)), False)
        self.check(pairs_of("?0 != f(a)"), False)
        self.check(pairs_of("p(?0) or p(a)"), False)
        self.check(pairs_of("f(f(?0)) = g(?0)"), False)
        self.check(pairs_of("not p(a)", "p(?0)"), False)

    def test_conclusions_that_are_shown_in_each_of_the_two_ways(self):
        # The conclusion q(a) or p(a) has a part, or always holds.
        rows = [("not r(?0) or q(?0)", 0), "r(a) or p(a)"]
        self.check(pairs_of(*rows), False)
        self.check(pairs_of(*rows, "q(?0) or p(?0)"), True)
        self.check(pairs_of(*rows, "p(a)"), True)
        self.check(pairs_of(*rows, "p(b)"), False)
        self.check(pairs_of(("not r(?0) or q(?0)", 0), "r(a) or not q(a)"), True)
        # The conclusion g(a) = b or p(f(a)) has a part when it is settled, g(a) = g(a) or p(f(a)) always holds then.
        rows = ["f(?0) = ?0", "g(f(?0)) = b or p(?0)"]
        self.check(pairs_of(*rows), False)
        self.check(pairs_of(*rows, "g(?0) = b or p(?0)"), True)

    def test_the_selection_counts(self):
        # Without a selected literal q is greater than p here, so there is no conclusion.
        self.check(pairs_of(("not p(?0) or q(?0)", None), "p(a)"), True)
        self.check(pairs_of(("not p(?0) or q(?0)", 0), "p(a)"), False)

    def test_weights(self):
        pairs = pairs_of("a = b", "p(a)")
        self.check(pairs, True)
        self.check(pairs, False, {A: 2}.items())
        self.check(pairs + pairs_of("p(b)"), True, {A: 2}.items())

    def test_chosen_clauses_of_saturated_reasoners(self):
        source = random.Random(100)
        many = 0
        for _ in range(150):
            given = {k: [put_clause(small_clause(source, depth=1), source.choice([{}, {0: samples.A, 1: samples.B, 2: samples.A}]))]
                     for k in range(source.choice([2, 3, 4, 5]))}
            weights = source.choice([{}, {samples.F: 2}])
            engine = Reasoner(weights, given)
            for _ in range(12):
                if not engine.waiting or max(len(kept.clause) for kept in engine.waiting) > 4:
                    break
                kept = source.choice(engine.waiting)
                engine.choose(kept.number, source.choice([None] + [k for k, one in enumerate(kept.clause) if not one[0]]))
            if engine.status() == "saturated":
                many += 1
                pairs = [(kept.clause, kept.selected) for kept in engine.chosen]
                self.check(pairs, True, weights.items())
                for rows in given.values():
                    self.assertTrue(all(shows(weights, pairs, one) for one in rows))
        self.assertGreater(many, 60)

    def test_random_sets(self):
        source = random.Random(99)
        counts = [0, 0]
        for _ in range(300):
            pairs = []
            for _ in range(source.choice([1, 2, 3])):
                one = small_clause(source, depth=1, most=2)
                pairs.append((one, source.choice([None] + [k for k, each in enumerate(one) if not each[0]])))
            weights = source.choice([{}, {samples.F: 2}, {samples.A[0]: 3}])
            result = naive_accepts(weights, pairs)
            counts[result] += 1
            self.assertIs(accepts_set(weights, pairs), result)
        self.assertGreater(min(counts), 30)

    def test_accepted_sets_have_worlds(self):
        # Sets of clauses without functions: a world of three individuals is large enough for two constants.
        source = random.Random(1000)
        many = 0
        for _ in range(400):
            pairs = []
            for _ in range(source.choice([1, 2, 3])):
                one = small_clause(source, depth=0, most=2, positive=0.5)
                pairs.append((one, source.choice([None] + [k for k, each in enumerate(one) if not each[0]])))
            if accepts_set({}, pairs):
                self.assertTrue(self.has_world([one for one, _ in pairs]), pairs)
                many += 1
        self.assertGreater(many, 50)

    def has_world(self, clauses):
        uses = uses_of_clauses(clauses)
        for size in (1, 2, 3):
            if ways(uses, size) < 100000:
                for tables in tables_for(uses, size):
                    world = World(size, {**tables, ((0, 0, 0), 0): (1,)})
                    if all(clause_holds(one, world) for one in clauses):
                        return True
        return False


class TextsTest(unittest.TestCase):
    def check(self, pairs, text):
        self.assertEqual(set_text(pairs, NAMES), text)
        self.assertEqual(read_set(text, NAMES), pairs)

    def test_sets(self):
        self.check([], "")
        self.check(pairs_of("p(?0) or q(a)"), "- p(?0) or q(a)\n")
        self.check(pairs_of(("not p(?0) or q(a)", 0), "a != f(b)", ("[]", None)), "0 not p(?0) or q(a)\n- a != f(b)\n- []\n")
        self.check(pairs_of("$3_0(?1) = a", "&1_0(?0) or @2(a) or not #"), "- $3_0(?1) = a\n- &1_0(?0) or @2(a) or not #\n")

    def test_indexes_that_do_not_fit_are_read(self):
        self.check(pairs_of(("p(a)", 0), ("[]", 7), ("q(a)", 123456789012345678)), "0 p(a)\n7 []\n123456789012345678 q(a)\n")

    def test_what_is_returned_is_new(self):
        text = "- p(a)\n"
        read_set(text, NAMES).clear()
        self.check(pairs_of("p(a)"), text)

    def refuse(self, text, names=NAMES):
        with self.assertRaises(NoSet) as caught:
            read_set(text, names)
        self.assertIsInstance(caught.exception, LastproofError)

    def test_changed_texts(self):
        for text in ["- p(a)", "\n", "- p(a)\n\n", "\n- p(a)\n", "- p(a)\n ", "-  p(a)\n", " - p(a)\n", "- p(a) \n", "-p(a)\n",
                     "p(a)\n", "00 p(a)\n", "01 not p(a)\n", "-1 p(a)\n", "-0 p(a)\n", "+ p(a)\n", "None p(a)\n", "-\n", "- \n",
                     "0\n", "0 \n", "- p(a)\n- q(a)", "- p(a) or\n", "-\tp(a)\n", "- p( a)\n", "- p(a),q(a)\n", "0- p(a)\n",
                     "- - p(a)\n", "? p(a)\n"]:
            self.refuse(text)

    def test_clauses_that_are_not_read(self):
        for text in ["s(a)", "p(d)", "p(", "a", "p(a) = a", "f(a)", "[] or p(a)", "p(p(a))", "# = p(a)", "?0", "not ?0", "a == b",
                     "p(?00)", "$1 = a"]:
            self.refuse(f"- {text}\n")
        self.refuse("- p(a)\n", NAMES[1:])
        self.refuse("- p(a)\n", [])


class SampleTest(unittest.TestCase):
    def test_the_table(self):
        self.assertEqual((NAMES[F[1]][1], NAMES[A[1]][1]), ("f", "a"))
