import unittest

from lastproof.derivations.notation import read_derivation
from lastproof.derivations.saturated import read_set
from lastproof.derivations.steps import check
from lastproof.errors import LastproofError, NoLiteral, NotWaiting, OutOfRange, TextFault, UnknownClause
from lastproof.problems.judges import judge_derivation, judge_set, judge_world
from lastproof.problems.problem import Problem
from lastproof.problems.session import Session
from lastproof.reasoner.reasoner import Reasoner
from tests.plain_reasoner import state_of

MORTAL = """axiom human: man(socrates)
axiom rule: all x. man(x) implies mortal(x)
goal end: mortal(socrates)"""

ASKED = """axiom one: p(a)
axiom two: p(b)
question who: some x. p(x)"""


def told_rows(session):
    return [(told.name, told.number, told.kind) for told in session.state.told]


def snapshot(session):
    return (session.problem_text(), state_of(session.engine), session.numbers(), session.status())


class SessionTest(unittest.TestCase):
    def check_fault(self, function, text, line, column, expected):
        with self.assertRaises(TextFault) as caught:
            function(text)
        self.assertEqual((caught.exception.line, caught.exception.column, caught.exception.expected), (line, column, expected))


class NewTest(SessionTest):
    def test_a_new_session(self):
        session = Session(MORTAL)
        self.assertIs(type(session.state), Problem)
        self.assertIs(type(session.engine), Reasoner)
        self.assertEqual(told_rows(session), [("human", 0, "axiom"), ("rule", 1, "axiom"), ("end", 2, "goal")])
        self.assertEqual(session.engine.given, session.state.given_clauses())
        self.assertEqual((session.numbers(), session.status()), (([0, 1, 2], [], []), "open"))
        self.assertEqual([session.describe(k)[0] for k in range(3)],
                         ["man(socrates)", "not man(?0) or mortal(?0)", "not mortal(socrates)"])

    def test_the_weights_of_the_problem(self):
        session = Session("weight f 3\nweight g 2\naxiom a: f(b) = g(b)\npredicate f")
        self.assertEqual(session.engine.weights, {(2, 0, 0): 3, (2, 2, 0): 2, (1, 3, 0): 3})

    def test_a_text_that_is_not_a_problem(self):
        self.check_fault(Session, "axiom a p", 1, 9, ":")
        self.check_fault(Session, "without a", 1, 1, "axiom, goal, question, predicate, function, weight or next")

    def test_the_empty_problem(self):
        for text in ["", "\n\n# nothing"]:
            session = Session(text)
            self.assertEqual((session.status(), session.numbers(), session.suggestion()), ("saturated", ([], [], []), None))
            self.assertEqual((session.problem_text(), session.saturated_set(), session.derivation()), ("", "", None))
            self.assertEqual((session.small_world(3), session.answer_rows(), session.run(10)), ("size 3\n", None, "saturated"))


class ChoosingTest(SessionTest):
    def test_choose(self):
        session = Session(MORTAL)
        self.assertEqual(session.suggestion(), (0, None))
        self.assertEqual(session.choose(0, None), [])
        self.assertEqual(session.choose(1, 0), [3])
        self.assertEqual(session.numbers(), ([2, 3], [0, 1], []))
        self.assertEqual(session.describe(1), ("not man(?0) or mortal(?0)", "chosen", 0, ["rule"]))
        self.assertEqual(session.describe(3), ("mortal(socrates)", "waits", None, ["human", "rule"]))

    def test_errors(self):
        session = Session(MORTAL)
        session.choose(0, None)
        before = snapshot(session)
        for number, literal, error in [(0, None, NotWaiting), (9, 5, NotWaiting), (1, 1, NoLiteral), (1, -1, NoLiteral),
                                       (2, 1, NoLiteral)]:
            with self.assertRaises(error):
                session.choose(number, literal)
        for count in (-1, 1001):
            with self.assertRaises(OutOfRange) as caught:
                session.run(count)
            self.assertEqual(caught.exception.name, "count")
        self.assertEqual(snapshot(session), before)

    def test_run(self):
        session = Session(MORTAL)
        self.assertEqual((session.run(0), session.run(1), session.engine.choices), ("open", "open", 1))
        self.assertEqual((session.run(1000), session.status()), ("refuted", "refuted"))

    def test_describe(self):
        session = Session("axiom one: not p(f(a)) or q(a)\naxiom two: all x. f(x) = x\naxiom three: q(b)")
        session.choose(0, 0)
        session.choose(1, None)
        # The clause that is gone was chosen with a selected literal.
        self.assertEqual(session.describe(0), ("not p(f(a)) or q(a)", "gone", 0, ["one"]))
        self.assertEqual(session.describe(1), ("f(?0) = ?0", "chosen", None, ["two"]))
        self.assertEqual(session.describe(3), ("not p(a) or q(a)", "waits", None, ["one", "two"]))
        self.assertEqual(session.numbers(), ([2, 3], [1], [0]))
        for number in (-1, 4):
            for function in (session.describe, session.derivation_of):
                with self.assertRaises(UnknownClause) as caught:
                    function(number)
                self.assertEqual(caught.exception.number, number)

    def test_numbers_in_the_order_of_choosing_and_going(self):
        session = Session("axiom a: p(f(b))\naxiom b: p(f(c))\naxiom c: all x. f(x) = x\naxiom d: q(b)")
        for number in (3, 1, 0, 2):
            session.choose(number, None)
        self.assertEqual(session.numbers(), ([4, 5], [3, 2], [1, 0]))
        session.numbers()[1].clear()
        self.assertEqual(session.numbers(), ([4, 5], [3, 2], [1, 0]))

    def test_the_names_in_the_order_of_the_given_steps(self):
        session = Session("axiom z: all x. p(x) implies q(x)\naxiom y: p(a)\naxiom x: all x. q(x) implies r(x)")
        session.choose(1, None)
        session.choose(0, 0)
        session.choose(2, 0)
        session.choose(3, None)
        self.assertEqual(session.describe(3)[3], ["z", "y"])
        self.assertEqual(session.describe(4)[0::3], ("r(a)", ["z", "y", "x"]))


class EditingTest(SessionTest):
    def test_an_edit(self):
        session = Session(MORTAL)
        session.run(1000)
        self.assertIsNone(session.edit("without rule\naxiom more: man(plato)"))
        self.assertEqual(told_rows(session), [("human", 0, "axiom"), ("end", 2, "goal"), ("more", 3, "axiom")])
        self.assertEqual(session.status(), "open")
        self.assertEqual(session.engine.given, session.state.given_clauses())
        # What rests only on what is still told stays, under its number.
        self.assertEqual([session.describe(k)[0] for k in session.numbers()[0]],
                         ["man(socrates)", "not mortal(socrates)", "man(plato)"])
        self.assertEqual(session.run(1000), "saturated")

    def test_a_faulty_edit_changes_nothing(self):
        session = Session(MORTAL)
        session.edit("axiom more: man(plato)")
        session.undo()
        session.run(2)
        before = snapshot(session)
        self.check_fault(session.edit, "axiom other: p\nwithout nothing", 2, 9, "the name of something told")
        self.check_fault(session.edit, "without rule\naxiom a p", 2, 9, ":")
        self.check_fault(session.edit, "weight man 3", 1, 1, "axiom, goal, question or without")
        self.check_fault(session.edit, "goal more: p", 1, 6, "no second goal or question")
        self.assertEqual(snapshot(session), before)
        # What can be undone and redone stays, too.
        self.assertIs(session.undo(), False)
        self.assertIs(session.redo(), True)
        self.assertEqual(told_rows(session)[-1], ("more", 3, "axiom"))

    def test_undo_and_redo(self):
        session = Session("axiom a: p")
        self.assertEqual((session.undo(), session.redo()), (False, False))
        session.edit("axiom b: q")
        session.edit("without a\naxiom c: r(f)")
        self.assertEqual(told_rows(session), [("b", 1, "axiom"), ("c", 2, "axiom")])
        self.assertIs(session.undo(), True)
        self.assertEqual(told_rows(session), [("a", 0, "axiom"), ("b", 1, "axiom")])
        self.assertIs(session.undo(), True)
        self.assertEqual(told_rows(session), [("a", 0, "axiom")])
        self.assertIs(session.undo(), False)
        self.assertEqual(told_rows(session), [("a", 0, "axiom")])
        self.assertIs(session.redo(), True)
        self.assertIs(session.redo(), True)
        self.assertEqual(told_rows(session), [("b", 1, "axiom"), ("c", 2, "axiom")])
        self.assertIs(session.redo(), False)
        self.assertIs(session.undo(), True)
        self.assertEqual(told_rows(session), [("a", 0, "axiom"), ("b", 1, "axiom")])

    def test_the_table_of_names_and_the_next_number_never_shrink(self):
        session = Session("axiom a: p")
        session.edit("axiom b: q(f)")
        session.undo()
        self.assertEqual(session.state.names, [(True, "p"), (True, "q"), (False, "f")])
        self.assertEqual(session.state.next_number, 2)
        self.assertEqual(session.problem_text(), "predicate p\npredicate q\nfunction f\naxiom a: p\nnext 2")
        session.edit("axiom b: r")
        self.assertEqual(told_rows(session), [("a", 0, "axiom"), ("b", 2, "axiom")])
        session.undo()
        session.edit("")
        self.assertEqual(session.state.next_number, 3)
        self.assertEqual(len(session.state.names), 4)

    def test_an_edit_behind_an_undo(self):
        session = Session("axiom a: p")
        session.edit("axiom b: q")
        session.undo()
        session.edit("axiom c: q")
        self.assertIs(session.redo(), False)
        self.assertEqual(told_rows(session), [("a", 0, "axiom"), ("c", 2, "axiom")])
        self.assertIs(session.undo(), True)
        self.assertEqual(told_rows(session), [("a", 0, "axiom")])
        self.assertIs(session.undo(), False)

    def test_an_edit_without_lines(self):
        for text in ["", "\n\n", " \t\n# a remark"]:
            session = Session("axiom a: p")
            session.edit("axiom b: q")
            session.undo()
            session.run(1)
            before = snapshot(session)
            session.edit(text)
            self.assertEqual(snapshot(session), before)
            # It can be undone, and it ends what could be redone.
            self.assertIs(session.redo(), False)
            self.assertIs(session.undo(), True)
            self.assertEqual(snapshot(session), before)
            self.assertIs(session.undo(), False)
            self.assertIs(session.redo(), True)
            self.assertIs(session.redo(), False)

    def stays(self, change, session):
        """Whether the reasoner stays as it is by a change."""
        before, engine = state_of(session.engine), session.engine
        self.assertNotEqual(before[1], [])
        change()
        self.assertIs(session.engine, engine)
        return state_of(session.engine) == before

    def test_when_the_reasoner_stays_as_it_is(self):
        def ready():
            session = Session("axiom a: p(f)\naxiom b: q(f)")
            session.run(1)
            return session

        session = ready()
        self.assertTrue(self.stays(lambda: session.edit(""), session))
        self.assertTrue(self.stays(session.undo, session))
        self.assertTrue(self.stays(session.redo, session))
        # Something is told and removed again, with names that are known.
        session = ready()
        self.assertTrue(self.stays(lambda: session.edit("axiom c: p(f)\nwithout c"), session))
        self.assertEqual(session.state.next_number, 3)
        # The table of names grows.
        session = ready()
        self.assertFalse(self.stays(lambda: session.edit("axiom c: r(f)\nwithout c"), session))
        session = ready()
        self.assertFalse(self.stays(lambda: session.edit("axiom c: p(f(f))\naxiom d: p(g)\nwithout c\nwithout d"), session))
        # The numbers are others.
        session = ready()
        self.assertFalse(self.stays(lambda: session.edit("axiom c: p(f)"), session))
        session.run(1)
        self.assertFalse(self.stays(session.undo, session))
        session.run(1)
        self.assertFalse(self.stays(session.redo, session))
        session = ready()
        self.assertFalse(self.stays(lambda: session.edit("without a"), session))
        # The same line again has another number.
        session = ready()
        self.assertFalse(self.stays(lambda: session.edit("without b\naxiom b: q(f)"), session))

    def test_a_turned_reasoner(self):
        session = Session("axiom a: all x. p(x) implies q(x)\naxiom b: p(f)\naxiom c: p(g)\nweight g 5")
        for number, literal in [(0, 0), (1, None), (2, None)]:
            session.choose(number, literal)
        session.edit("without b")
        self.assertEqual(session.numbers(), ([0, 2, 4], [], []))
        self.assertEqual(session.engine.choices, 3)
        self.assertEqual([session.describe(k)[0::3] for k in (0, 2, 4)], [
            ("not p(?0) or q(?0)", ["a"]), ("p(g)", ["c"]), ("q(g)", ["a", "c"])])
        with self.assertRaises(UnknownClause):
            session.describe(3)
        # The undone edit brings the clause back under a new number.
        session.undo()
        self.assertEqual(session.numbers(), ([0, 2, 4, 5], [], []))
        self.assertEqual(session.describe(5)[0::3], ("p(f)", ["b"]))
        session.edit("axiom d: h(g) = f")
        self.assertEqual(session.engine.weights, {(2, 3, 0): 5})

    def test_weights_of_new_names(self):
        session = Session("weight h 7\naxiom a: p(f)")
        self.assertEqual(session.engine.weights, {})
        session.edit("axiom b: p(h)")
        self.assertEqual(session.engine.weights, {(2, 2, 0): 7})
        session.undo()
        self.assertEqual(session.engine.weights, {(2, 2, 0): 7})

    def test_a_question_after_an_edit(self):
        session = Session(MORTAL)
        self.check_fault(session.edit, "question who: some x. mortal(x)", 1, 10, "no second goal or question")
        session.edit("without end\nquestion who: some x. mortal(x)")
        session.run(1000)
        self.assertEqual(session.answer_rows(), [["socrates"]])


class EndsTest(SessionTest):
    def test_refuted(self):
        session = Session(MORTAL)
        self.assertIsNone(session.derivation())
        session.run(1000)
        self.assertEqual(session.status(), "refuted")
        refutes, lines, rests = judge_derivation(session.problem_text(), session.derivation())
        self.assertEqual((refutes, lines[-1], rests), (True, "[]", ["human", "rule", "end"]))
        self.assertIsNone(session.saturated_set())
        self.assertIsNone(session.answer_rows())
        for size in (1, 2, 3):
            self.assertIsNone(session.small_world(size))

    def test_the_empty_clause_that_waits_comes_before_the_chosen_one(self):
        session = Session("axiom a: p\naxiom b: not p\naxiom c: q(f)\naxiom d: all x. not q(x)")
        session.choose(0, None)
        session.choose(3, 0)
        self.assertEqual(session.choose(2, None), [4])
        self.assertEqual(session.choose(1, 0), [5])
        self.assertEqual([session.describe(k)[:2] for k in (4, 5)], [("[]", "waits"), ("[]", "chosen")])
        self.assertEqual(session.derivation(), session.derivation_of(4))
        self.assertEqual(judge_derivation(session.problem_text(), session.derivation())[0::2], (True, ["c", "d"]))
        session.choose(4, None)
        self.assertEqual((session.describe(4)[1], session.numbers()), ("gone", ([], [5], [1, 0, 3, 2, 4])))
        self.assertEqual(session.derivation(), session.derivation_of(5))
        self.assertEqual(judge_derivation(session.problem_text(), session.derivation())[0::2], (True, ["a", "b"]))

    def test_empty_clauses_that_wait_after_an_edit(self):
        session = Session("axiom a: p\naxiom b: not p\naxiom c: q(f)\naxiom d: all x. not q(x)")
        for number, literal in [(0, None), (3, 0), (2, None), (1, 0)]:
            session.choose(number, literal)
        session.edit("axiom e: r")
        self.assertEqual((session.status(), session.numbers()), ("refuted", ([0, 1, 2, 3, 4, 5], [], [])))
        self.assertEqual(session.derivation(), session.derivation_of(4))
        session.edit("without c")
        self.assertEqual((session.status(), session.numbers()), ("refuted", ([0, 1, 3, 5], [], [])))
        self.assertEqual(session.derivation(), session.derivation_of(5))
        session.edit("without b")
        self.assertEqual((session.status(), session.numbers()[0][:2], session.derivation()), ("open", [0, 3], None))

    def test_saturated(self):
        session = Session("axiom a: all x. p(x) implies q(x)\naxiom b: p(f)\ngoal g: q(h)")
        self.assertIsNone(session.saturated_set())
        self.assertEqual(session.run(1000), "saturated")
        text = session.saturated_set()
        pairs = read_set(text, session.state.names)
        self.assertEqual(pairs, [(kept.clause, kept.selected) for kept in session.engine.chosen])
        self.assertEqual(judge_set(session.problem_text(), text), (True, True))
        self.assertIsNone(session.derivation())
        self.assertIsNone(session.answer_rows())

    def test_a_saturated_session_that_is_opened_again(self):
        session = Session("axiom a: p(f)")
        session.run(10)
        self.assertEqual(session.saturated_set(), "- p(f)\n")
        session.edit("axiom b: q(f)")
        self.assertEqual((session.status(), session.saturated_set()), ("open", None))

    def test_derivation_of(self):
        session = Session(MORTAL)
        session.choose(1, 0)
        session.choose(0, None)
        text = session.derivation_of(3)
        self.assertEqual(text, "lastproof derivation 1\ngiven|0|0\ngiven|1|0\nsuperpose|1|0=socrates|0|0||0||0|0\nclean|2\n")
        steps = read_derivation(text, session.state.names)
        self.assertEqual(check(session.state.given_clauses(), steps)[-1], session.engine.find(3).clause)


class AnswersTest(SessionTest):
    def test_answers(self):
        session = Session(ASKED)
        self.assertIsNone(session.answer_rows())
        session.run(1000)
        self.assertEqual(session.answer_rows(), [["a"]])
        session = Session("axiom one: p(a) or p(b)\nquestion who: some x. p(x)")
        session.run(1000)
        self.assertEqual(sorted(session.answer_rows()), [["a"], ["b"]])

    def test_several_variables_and_none(self):
        session = Session("axiom one: all x. p(x, f(x))\nquestion who: some x y. p(x, y)")
        session.run(1000)
        self.assertEqual(session.answer_rows(), [["?0", "f(?0)"]])
        session = Session("axiom one: p\nquestion who: p")
        session.run(1000)
        self.assertEqual(session.answer_rows(), [[]])

    def test_axioms_that_refute_alone(self):
        session = Session("axiom one: p and not p\nquestion who: some x. q(x)")
        session.run(1000)
        self.assertEqual((session.status(), session.answer_rows()), ("refuted", []))

    def test_no_question(self):
        session = Session("axiom one: p and not p")
        session.run(1000)
        self.assertEqual((session.status(), session.answer_rows()), ("refuted", None))


class WorldsTest(SessionTest):
    def test_small_worlds(self):
        session = Session("axiom one: p(a)\naxiom two: not p(b)\ngoal end: all x. p(x) or x = b")
        self.assertIsNone(session.small_world(1))
        self.assertIsNone(session.small_world(2))
        text = session.small_world(3)
        self.assertEqual(text, "size 3\np/1: 0 0 1\na/0: 2\nb/0: 0\n")
        self.assertEqual(judge_world(session.problem_text(), text), (3, True))

    def test_a_question(self):
        session = Session("axiom one: p(a)\nquestion who: some x. q(x)")
        self.assertEqual(session.small_world(2), "size 2\np/1: 0 1\na/0: 1\nq/1: 0 0\n")

    def test_sizes(self):
        session = Session("axiom one: some x. p(x)")
        before = snapshot(session)
        for size in (1, 2, 7, 8):
            self.assertEqual(session.small_world(size), f"size {size}\np/1:{' 0' * (size - 1)} 1\n")
        for size in (0, 9, -1, 100):
            with self.assertRaises(OutOfRange) as caught:
                session.small_world(size)
            self.assertEqual(caught.exception.name, "size")
            self.assertIsInstance(caught.exception, LastproofError)
        self.assertEqual(snapshot(session), before)

    def test_after_an_edit(self):
        session = Session("axiom one: some x. p(x)")
        session.edit("axiom two: all x. not p(x)")
        self.assertIsNone(session.small_world(2))
        session.undo()
        self.assertIsNotNone(session.small_world(2))
