import random
import unittest

from lastproof.derivations.growing import axioms_below, derive, needed
from lastproof.derivations.steps import check, resting
from lastproof.errors import LastproofError, UnknownClause
from lastproof.formulas.meaning import clause_holds
from lastproof.reasoner.reasoner import Reasoner
from lastproof.terms.literals import clause_variables
from tests import samples
from tests.clause_samples import A, B, F, G, clause, given_of, text_of
from tests.formula_samples import random_world, uses_of_clauses
from tests.plain_conclusions import small_clause

a, b = (A, ()), (B, ())


def made(rows, *choices):
    engine = Reasoner({}, given_of(rows))
    for number, literal in choices:
        engine.choose(number, literal)
    return engine


def random_run(source, most=8):
    """A reasoner after some choices, of small clauses."""
    given = {k: [small_clause(source, depth=1, positive=0.6) for _ in range(source.choice([1, 2]))]
             for k in source.sample(range(9), source.choice([2, 3, 4]))}
    engine = Reasoner(source.choice([{}, {samples.F: 2}]), given)
    for _ in range(most):
        if not engine.waiting or max(len(kept.clause) for kept in engine.waiting) > 4:
            break
        kept = source.choice(engine.waiting)
        engine.choose(kept.number, source.choice([None] + [k for k, one in enumerate(kept.clause) if not one[0]]))
    return engine


class GrowingTest(unittest.TestCase):
    def check(self, engine, number, numbers, steps, axioms):
        self.assertEqual(needed(engine, number), numbers)
        self.assertEqual(repr(derive(engine, number)), repr(steps))
        self.assertEqual(axioms_below(engine, number), axioms)
        self.check_holds(engine, number)

    def check_holds(self, engine, number):
        steps = derive(engine, number)
        lines = check(engine.given, steps)
        self.assertEqual(len(lines), len(steps))
        self.assertEqual(lines[-1], engine.find(number).clause)
        self.assertEqual(resting(steps, len(steps)), axioms_below(engine, number))

    def test_given_clauses(self):
        engine = made({5: ["p(a)", "q(?0)"], 2: ["r(b)"]})
        self.check(engine, 0, [0], [("given", 5, 0)], [5])
        self.check(engine, 1, [1], [("given", 5, 1)], [5])
        self.check(engine, 2, [2], [("given", 2, 0)], [2])

    def test_changes_of_given_clauses(self):
        engine = made({0: ["p(?4, ?2) or a != a", "q(?1) or r(?0)", "r(c) or p(?0) or r(c)"]})
        self.check(engine, 0, [0], [("given", 0, 0), ("clean", 0), ("instance", 1, {4: 0, 2: 1})], [0])
        self.check(engine, 1, [1], [("given", 0, 1), ("instance", 0, {1: 0, 0: 1})], [0])
        self.check(engine, 2, [2], [("given", 0, 2), ("clean", 0)], [0])

    def test_superposition(self):
        engine = made({3: ["not p(f(?1, ?0)) or q(?0)"], 1: ["f(?0, a) = ?0 or r(?1)"]}, (0, 0), (1, None))
        self.assertEqual(text_of(engine.find(2).clause), "not p(?0) or q(a) or r(?1)")
        self.check(engine, 2, [0, 1, 2], [
            ("given", 3, 0), ("instance", 0, {1: 0, 0: 1}), ("given", 1, 0),
            ("superpose", 1, {0: 0, 1: a}, 0, 0, (0,), 2, {0: 0, 1: 1}, 0, 0)], [3, 1])

    def test_superposition_of_a_clause_into_itself(self):
        engine = made({0: ["f(f(?0)) = g(?0)"]}, (0, None))
        self.check(engine, 1, [0, 1], [
            ("given", 0, 0), ("superpose", 0, {0: (F, (0,))}, 0, 0, (0,), 0, {0: 0}, 0, 0)], [0])

    def test_resolution_and_factoring(self):
        engine = made({0: ["f(?0) != f(a) or p(?0, ?1)"]}, (0, 0))
        self.check(engine, 1, [0, 1], [("given", 0, 0), ("resolve", 0, {0: a, 1: 0}, 0)], [0])
        engine = made({0: ["p(?0, a) or p(b, ?1) or q(c)"]}, (0, None))
        self.assertEqual(text_of(engine.find(1).clause), "p(b, a) or q(c)")
        self.check(engine, 1, [0, 1], [("given", 0, 0), ("factor", 0, {0: b, 1: a}, 0, 0, 1, 0), ("clean", 1)], [0])

    def test_a_copied_clause_that_was_chosen(self):
        engine = made({4: ["not p(f(f(a)))"], 2: ["f(?0) = ?0"], 7: ["q(a)"]}, (1, None), (0, 0))
        self.assertEqual(engine.find(3).made, ("copied", 0))
        self.check(engine, 3, [0, 1, 3], [
            ("given", 4, 0), ("given", 2, 0), ("superpose", 0, {}, 0, 0, (0,), 1, {0: (F, (a,))}, 0, 0),
            ("superpose", 2, {}, 0, 0, (0,), 1, {0: a}, 0, 0)], [4, 2])
        # The clause that is gone has a derivation too, without the changes before it went.
        self.assertEqual([gone.kept.number for gone in engine.gone], [0])
        self.check(engine, 0, [0], [("given", 4, 0)], [4])

    def test_a_copied_clause_that_was_rewritten_again(self):
        engine = made({0: ["not p(f(?5)) or q(?2) or f(b) != b"], 1: ["f(?0) = ?0"], 2: ["q(a)"]}, (0, 0), (1, None))
        self.assertEqual(text_of(engine.find(3).clause), "not p(?0) or q(?1)")
        self.check(engine, 3, [0, 1, 3], [
            ("given", 0, 0), ("instance", 0, {5: 0, 2: 1}), ("given", 1, 0),
            ("superpose", 1, {}, 0, 0, (0,), 2, {0: 0}, 0, 0), ("superpose", 3, {}, 2, 0, (), 2, {0: b}, 0, 0),
            ("clean", 4)], [0, 1])

    def test_conclusions_with_each_change(self):
        engine = made({0: ["not p(?0, ?1) or q(f(?1)) or q(f(?1))"], 1: ["p(?0, g(?1)) or r(a)"], 2: ["f(g(?0)) = ?0"]},
                      (2, None), (0, 0), (1, None))
        self.assertEqual(text_of(engine.find(3).clause), "q(?0) or r(a)")
        self.check(engine, 3, [0, 1, 2, 3], [
            ("given", 0, 0), ("clean", 0), ("given", 1, 0), ("given", 2, 0),
            ("superpose", 1, {0: 1, 1: (G, (0,))}, 0, 0, (), 2, {0: 1, 1: 0}, 0, 0), ("clean", 4),
            ("superpose", 5, {}, 0, 0, (0,), 3, {0: 0}, 0, 0)], [0, 1, 2])

    def test_several_clauses_rest_on_one_axiom(self):
        engine = made({6: ["not p(a) or q(a)", "p(a)"], 3: ["not q(a)"]}, (0, 0), (1, None), (3, None), (2, 0))
        empty = [kept.number for kept in engine.everything() if not kept.clause]
        self.assertEqual(axioms_below(engine, empty[0]), [6, 3])
        self.check_holds(engine, empty[0])

    def test_unknown_clauses(self):
        engine = made({0: ["p(a)", "p(a)", "q(a)"]})
        for number in (-1, 2, 7):
            for function in (needed, derive, axioms_below):
                with self.assertRaises(UnknownClause) as caught:
                    function(engine, number)
                self.assertEqual(caught.exception.number, number)
                self.assertIsInstance(caught.exception, LastproofError)

    def test_clauses_that_were_removed(self):
        engine = made({0: ["p(a)"], 1: ["q(a)"]})
        engine.turn({}, given_of({1: ["q(a)"]}))
        with self.assertRaises(UnknownClause):
            derive(engine, 0)
        self.check(engine, 1, [1], [("given", 1, 0)], [1])

    def test_what_is_returned_is_new(self):
        engine = made({4: ["not p(f(a))"], 2: ["f(?0) = ?0"], 7: ["q(?3)"]}, (1, None), (0, 0))
        for number in (2, 3):
            expected = repr(derive(engine, number))
            for step in derive(engine, number):
                for part in step:
                    if isinstance(part, dict):
                        part.clear()
            derive(engine, number).clear()
            needed(engine, number).clear()
            axioms_below(engine, number).clear()
            self.assertEqual(repr(derive(engine, number)), expected)

    def test_random_reasoners(self):
        source = random.Random(96)
        many = 0
        for _ in range(120):
            engine = random_run(source)
            clauses = [one for rows in engine.given.values() for one in rows]
            world = random_world(source, uses_of_clauses(clauses), 2)
            for kept in engine.everything():
                self.check_holds(engine, kept.number)
                self.check_substitutions(engine, kept.number)
                axioms = axioms_below(engine, kept.number)
                # The clause holds in every world in which the clauses of these axioms hold.
                if all(clause_holds(one, world) for axiom in axioms for one in engine.given[axiom]):
                    many += kept.made[0] != "given"
                    self.assertTrue(clause_holds(kept.clause, world))
        self.assertGreater(many, 50)

    def check_substitutions(self, engine, number):
        """The step that made the clause has substitutions for all variables of the clauses, in order."""
        kept = engine.find(number)
        if kept.made[0] in ("superposed", "resolved", "factored"):
            step = derive(engine, number)[-1 - len(kept.changes)]
            self.assertEqual(list(step[2]), clause_variables(engine.find(kept.made[1]).clause))
            if kept.made[0] == "superposed":
                self.assertEqual(list(step[7]), clause_variables(engine.find(kept.made[2]).clause))

    def test_reasoners_that_are_turned(self):
        source = random.Random(97)
        many = 0
        for _ in range(80):
            engine = random_run(source)
            before = {kept.number: axioms_below(engine, kept.number) for kept in engine.everything()}
            left = {axiom: engine.given[axiom] for axiom in engine.given if source.random() < 0.7}
            engine.turn({}, left)
            for kept in engine.everything():
                self.check_holds(engine, kept.number)
                if kept.number in before:
                    self.assertEqual(axioms_below(engine, kept.number), before[kept.number])
            stayed = [number for number in before if set(before[number]) <= set(left)]
            self.assertEqual([number for number in before if engine.find(number) is not None], stayed)
            many += len(before) - len(stayed)
        self.assertGreater(many, 100)


class ClauseTest(unittest.TestCase):
    def test_the_samples(self):
        self.assertEqual(clause("p(f(a))"), ((True, ((1, 0, 0), ((F, (a,)),)), ((0, 0, 0), ())),))
