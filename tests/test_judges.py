import unittest

from lastproof.errors import LastproofError, NoDerivation, NoSet, NoTerm, NoWorld, TextFault
from lastproof.problems.judges import clauses_of_problem, compare_terms, judge_derivation, judge_set, judge_world
from lastproof.problems.session import Session

MORTAL = """axiom human: man(socrates)
axiom rule: all x. man(x) implies mortal(x)
goal end: mortal(socrates)"""

PROOF = """lastproof derivation 1
given|2|0
given|1|0
given|0|0
superpose|1|0=socrates|0|0||2||0|0
clean|3
superpose|0||0|0||4||0|0
clean|5
"""

FAULTY = ["axiom a p", "axiom a: p and", "x", "goal a: p\ngoal b: q", "without a"]


class JudgesTest(unittest.TestCase):
    def check_errors(self, function, error, wrong, right):
        """The first fault counts: that of the problem, then that of the second text."""
        for faulty in FAULTY:
            for text in (wrong, right):
                with self.assertRaises(TextFault):
                    function(faulty, text)
        with self.assertRaises(error) as caught:
            function(MORTAL, wrong)
        self.assertIsInstance(caught.exception, LastproofError)
        function(MORTAL, right)


class ClausesTest(unittest.TestCase):
    def test_clauses(self):
        self.assertEqual(clauses_of_problem(MORTAL), [
            ("human", ["man(socrates)"]), ("rule", ["not man(?0) or mortal(?0)"]), ("end", ["not mortal(socrates)"])])
        self.assertEqual(clauses_of_problem(""), [])
        self.assertEqual(clauses_of_problem("predicate p\nnext 3\naxiom a: p and (some x. q(x))\nquestion b: some x. q(x)"), [
            ("a", ["p", "q($3_0)"]), ("b", ["not q(?0) or @4(?0)", "not @4(?0)"])])
        self.assertEqual(clauses_of_problem("axiom a: p or not p\naxiom b: (p and q) or (r and s)"), [
            ("a", ["p or not p"]), ("b", ["p or &1_0", "q or &1_0", "not &1_0 or r", "not &1_0 or s"])])

    def test_faults(self):
        for text in FAULTY:
            with self.assertRaises(TextFault):
                clauses_of_problem(text)


class DerivationTest(JudgesTest):
    def test_a_derivation_that_refutes(self):
        self.assertEqual(judge_derivation(MORTAL, PROOF), (True, [
            "not mortal(socrates)", "not man(?0) or mortal(?0)", "man(socrates)", "not # or mortal(socrates)", "mortal(socrates)",
            "not #", "[]"], ["human", "rule", "end"]))

    def test_a_derivation_that_does_not_refute(self):
        shorter = PROOF.replace("clean|5\n", "")
        refutes, lines, rests = judge_derivation(MORTAL, shorter)
        self.assertEqual((refutes, lines[-1], rests), (False, "not #", ["human", "rule", "end"]))
        self.assertEqual(judge_derivation(MORTAL, "lastproof derivation 1\n"), (False, [], []))
        self.assertEqual(judge_derivation(MORTAL, "lastproof derivation 1\ngiven|1|0\n"),
                         (False, ["not man(?0) or mortal(?0)"], ["rule"]))

    def test_steps_that_do_not_hold(self):
        # The lines and the names are those of the steps before.
        wrong = PROOF.replace("0=socrates", "1=socrates")
        self.assertEqual(judge_derivation(MORTAL, wrong), (
            False, ["not mortal(socrates)", "not man(?0) or mortal(?0)", "man(socrates)"], ["human", "rule", "end"]))
        wrong = PROOF.replace("given|1|0", "given|1|1")
        self.assertEqual(judge_derivation(MORTAL, wrong), (False, ["not mortal(socrates)"], ["end"]))
        self.assertEqual(judge_derivation(MORTAL, PROOF + "clean|6\nclean|8\n")[0::2], (False, ["human", "rule", "end"]))
        self.assertEqual(judge_derivation(MORTAL, PROOF + "clean|6\n")[0], True)
        self.assertEqual(judge_derivation(MORTAL, "lastproof derivation 1\ngiven|9|0\n"), (False, [], []))

    def test_the_names_in_the_order_in_which_they_are_told(self):
        problem = "next 4\naxiom z: p\naxiom y: not p\naxiom x: q"
        proof = "lastproof derivation 1\ngiven|5|0\ngiven|4|0\ngiven|5|0\n"
        self.assertEqual(judge_derivation(problem, proof), (False, ["not p", "p", "not p"], ["z", "y"]))

    def test_derivations_of_sessions(self):
        for text in [MORTAL, "axiom a: some x. all y. p(x, y)\ngoal b: all y. some x. p(x, y)",
                     "axiom a: all x. f(f(x)) = f(x)\naxiom b: f(c) != f(f(f(c)))", "question q: some x. p(x) or not p(x)"]:
            session = Session(text)
            self.assertEqual(session.run(1000), "refuted")
            self.assertTrue(judge_derivation(text, session.derivation())[0])

    def test_errors(self):
        for wrong in ["", PROOF[:-1], PROOF.replace("0=socrates", "0=plato"), PROOF.replace("given", "give"), PROOF + "\n",
                      MORTAL]:
            self.check_errors(judge_derivation, NoDerivation, wrong, PROOF)


class SetTest(JudgesTest):
    PROBLEM = "axiom one: all x. p(x) implies q(x)\naxiom two: p(a)"

    def test_sets(self):
        accepted = "0 not p(?0) or q(?0)\n- p(a)\n- q(a)\n"
        self.assertEqual(judge_set(self.PROBLEM, accepted), (True, True))
        self.assertEqual(judge_set(self.PROBLEM, accepted.replace("- q(a)\n", "")), (False, True))
        # Accepted, but it does not show all clauses of what is held.
        self.assertEqual(judge_set(self.PROBLEM, "- p(a)\n"), (True, False))
        self.assertEqual(judge_set(self.PROBLEM, "- q(?0)\n"), (True, False))
        self.assertEqual(judge_set(self.PROBLEM, "- q(?0)\n- p(?0)\n"), (True, True))
        self.assertEqual(judge_set(self.PROBLEM, ""), (True, False))
        self.assertEqual(judge_set("", ""), (True, True))
        self.assertEqual(judge_set("axiom a: p or not p", ""), (True, True))
        self.assertEqual(judge_set(self.PROBLEM, "0 q(?0)\n- p(?0)\n"), (False, True))
        self.assertEqual(judge_set(self.PROBLEM, "- []\n"), (False, True))

    def test_the_weights_of_the_problem(self):
        problem = "axiom a: a = b\naxiom b: p(a)\naxiom c: p(b) or q"
        self.assertEqual(judge_set(problem, "- a = b\n- p(a)\n"), (True, True))
        self.assertEqual(judge_set("weight a 2\n" + problem, "- a = b\n- p(a)\n"), (False, False))
        self.assertEqual(judge_set("weight a 2\n" + problem, "- a = b\n- p(b)\n"), (True, True))

    def test_a_goal_and_a_question(self):
        self.assertEqual(judge_set("goal g: p(a)", "- not p(a)\n"), (True, True))
        self.assertEqual(judge_set("question g: some x. p(x)", "- not p(?0)\n"), (True, False))
        self.assertEqual(judge_set("question g: some x. p(x)", "- not p(?0)\n- not @0(?0)\n"), (True, True))

    def test_errors(self):
        for wrong in ["- man(plato)\n", "- man(socrates)", "man(socrates)\n", "00 man(socrates)\n", "\n"]:
            self.check_errors(judge_set, NoSet, wrong, "- man(socrates)\n")


class WorldTest(JudgesTest):
    def test_worlds(self):
        problem = "axiom one: p(a)\naxiom two: all x. p(x) implies p(f(x))\ngoal end: all x. p(x)"
        text = "size 2\np/1: {}\na/0: {}\nf/1: {}\n"
        self.assertEqual(judge_world(problem, text.format("1 0", "0", "0 1")), (2, True))
        self.assertEqual(judge_world(problem, text.format("1 1", "0", "0 1")), (2, False))
        self.assertEqual(judge_world(problem, text.format("1 0", "1", "0 1")), (2, False))
        self.assertEqual(judge_world(problem, text.format("1 0", "0", "1 1")), (2, False))
        # What does not fit is read and not accepted.
        self.assertEqual(judge_world(problem, text.format("1 0", "0", "0")), (2, False))
        self.assertEqual(judge_world(problem, text.format("1 0", "2", "0 1")), (2, False))
        self.assertEqual(judge_world(problem, text.format("2 0", "0", "0 1")), (2, False))
        self.assertEqual(judge_world(problem, "size 0\np/1:\na/0:\nf/1:\n"), (0, False))
        self.assertEqual(judge_world("", "size 5\n"), (5, True))
        self.assertEqual(judge_world("", "size 0\n"), (0, False))

    def test_a_question(self):
        problem = "axiom one: p(a)\nquestion end: some x. q(x)"
        self.assertEqual(judge_world(problem, "size 1\np/1: 1\na/0: 0\nq/1: 0\n"), (1, True))
        self.assertEqual(judge_world(problem, "size 1\np/1: 1\na/0: 0\nq/1: 1\n"), (1, False))

    def test_errors(self):
        right = "size 1\nman/1: 1\nsocrates/0: 0\nmortal/1: 0\n"
        self.assertEqual(judge_world(MORTAL, right), (1, False))
        for wrong in ["", "size 1\n", right[:-1], right + "\n", right.replace("1: 1", "1:1"), right.replace("mortal", "man"),
                      "size 1\nman/1: 1\nmortal/1: 0\nsocrates/0: 0\n"]:
            self.check_errors(judge_world, NoWorld, wrong, right)


class CompareTest(unittest.TestCase):
    PROBLEM = "predicate p\nfunction f\nfunction g\nfunction a\nfunction b\nfunction p"

    def check(self, first, second, result, problem=None):
        opposite = {"greater": "less", "less": "greater"}
        told = self.PROBLEM if problem is None else problem
        self.assertEqual(compare_terms(told, first, second), result)
        self.assertEqual(compare_terms(told, second, first), opposite.get(result, result))

    def test_terms(self):
        self.check("a", "a", "same")
        self.check("f(?0)", "f(?0)", "same")
        self.check("b", "a", "greater")
        self.check("f(a)", "b", "greater")
        self.check("f(b, a)", "g(a, b)", "less")
        self.check("f(?0)", "f(?1)", None)
        self.check("?0", "?1", None)
        self.check("?3", "?3", "same")
        self.check("?0", "f(f(?0))", "less")
        self.check("$0_0", "b", "greater")

    def test_atoms(self):
        problem = "predicate p\nfunction f\nfunction a\nfunction b"
        self.check("p(a)", "p(b)", "less", problem)
        self.check("p(?0)", "f(?0)", "less", problem)
        self.check("p(f(a))", "#", "greater", problem)
        self.check("p", "#", "greater", problem)
        self.check("p", "a", "less", problem)
        self.check("#", "@0", "less", problem)
        self.check("&0_0(a)", "p(a)", "greater", problem)
        self.check("#", "#", "same", problem)

    def test_a_name_that_is_a_predicate_and_a_function(self):
        # The text is read as an individual term: p is the last function here, but the first predicate.
        self.check("p(?0)", "f(?0)", "greater")
        self.check("p", "b", "greater")
        self.check("p(a)", "p(a)", "same")

    def test_weights(self):
        self.check("a", "b", "greater", "weight a 2\n" + self.PROBLEM)
        self.check("f(a)", "g(b)", "greater", "weight a 2\n" + self.PROBLEM)
        self.check("f(f(a))", "f(b)", "less", "weight b 3\n" + self.PROBLEM)
        self.check("f(a)", "f(b)", "less", "weight a 2\nweight b 3\naxiom x: f(a) = b")

    def test_errors(self):
        for text in FAULTY:
            for first in ("a", "c("):
                with self.assertRaises(TextFault):
                    compare_terms(text, first, "b")
        for wrong in ["", "c", "f(a,b)", "?01", "a = b", "not p", "f(#)", " a", "f()", "p(a) "]:
            for first, second in [(wrong, "a"), ("a", wrong), (wrong, wrong)]:
                with self.assertRaises(NoTerm) as caught:
                    compare_terms(self.PROBLEM, first, second)
                self.assertIsInstance(caught.exception, LastproofError)
