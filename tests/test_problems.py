import unittest

from lastproof.clauses.clausing import clauses_of
from lastproof.derivations.questions import question_axiom
from lastproof.errors import TextFault
from lastproof.problems.problem import Problem, Told
from lastproof.problems.reading import edited, read_problem
from tests.samples import TRUTH

START = "axiom, goal, question, predicate, function, weight or next"
EDIT_START = "axiom, goal, question or without"
WORDS = ["axiom", "goal", "question", "predicate", "function", "weight", "next", "without"]
KEY_WORDS = ["all", "some", "not", "and", "or", "implies", "iff"]


def P(n, *arguments):
    return ("atom", ((1, n, 0), arguments))


def told_rows(problem):
    return [(t.name, t.number, t.kind, t.formula, t.line) for t in problem.told]


def fields(problem):
    return (problem.names, problem.heavy, told_rows(problem), problem.next_number)


def fault_of(text, problem=None):
    """The fault of a problem, or of an edit of a problem."""
    try:
        read_problem(text) if problem is None else edited(problem, text)
    except TextFault as fault:
        return (fault.line, fault.column, fault.expected)
    return None


class ProblemTest(unittest.TestCase):
    def test_the_fields_of_what_is_told(self):
        told = Told("a", 3, "goal", P(0), "goal a: p")
        self.assertEqual(told_rows(Problem([], [], [told], 0)), [("a", 3, "goal", P(0), "goal a: p")])
        told = Told(line="x", formula=P(1), kind="axiom", number=0, name="n")
        self.assertEqual((told.name, told.number, told.kind, told.formula, told.line), ("n", 0, "axiom", P(1), "x"))

    def test_the_fields_of_a_problem(self):
        told = Told("a", 3, "axiom", P(0), "axiom a: p")
        problem = Problem([(True, "p")], [("p", 7)], [told], 9)
        self.assertEqual((problem.names, problem.heavy, problem.told, problem.next_number),
                         ([(True, "p")], [("p", 7)], [told], 9))
        self.assertEqual(Problem(next_number=1, told=[], heavy=[], names=[]).next_number, 1)

    def test_the_lists_are_copied(self):
        names, heavy, told = [(True, "p")], [("p", 7)], [Told("a", 0, "axiom", P(0), "axiom a: p")]
        problem = Problem(names, heavy, told, 1)
        for one in (names, heavy, told):
            one.clear()
        self.assertEqual((len(problem.names), len(problem.heavy), len(problem.told)), (1, 1, 1))

    def test_symbol_weights(self):
        names = [(True, "p"), (False, "f"), (False, "p"), (True, "q"), (False, "a")]
        self.assertEqual(Problem(names, [], [], 0).symbol_weights(), {})
        problem = Problem(names, [("a", 5), ("p", 1000), ("other", 3), ("q", 1)], [], 0)
        self.assertEqual(problem.symbol_weights(), {(2, 4, 0): 5, (1, 0, 0): 1000, (2, 2, 0): 1000, (1, 3, 0): 1})
        problem.symbol_weights().clear()
        self.assertEqual(len(problem.symbol_weights()), 4)

    def test_weights_wherever_the_weight_line_stands(self):
        lines = ["weight f 4", "axiom a: f(b) = b", "weight b 6", "axiom c: f and b(b)"]
        problem = read_problem("\n".join(lines))
        self.assertEqual(problem.names, [(False, "f"), (False, "b"), (True, "f"), (True, "b")])
        self.assertEqual(problem.symbol_weights(), {(2, 0, 0): 4, (2, 1, 0): 6, (1, 2, 0): 4, (1, 3, 0): 6})
        self.assertEqual(edited(problem, "axiom d: b != f").symbol_weights(), problem.symbol_weights())
        self.assertEqual(edited(read_problem("weight f 4"), "axiom d: f").symbol_weights(), {(1, 0, 0): 4})

    def test_what_is_held(self):
        problem = read_problem("axiom a: p\ngoal b: q implies p\naxiom c: all x. r(x)")
        p, q, r = P(0), P(1), ("all", 0, P(2, 0))
        self.assertEqual(problem.held(), [p, ("not", ("implies", q, p)), r])
        self.assertEqual(problem.against(), [p, ("not", ("implies", q, p)), r])
        self.assertIsNone(problem.question_told())

    def test_what_is_held_of_a_question(self):
        problem = read_problem("axiom a: p(c)\nnext 5\nquestion b: some x. p(x)")
        question = ("some", 0, P(0, 0))
        reply = ("atom", ((5, 5, 0), (0,)))
        axiom = ("and", ("all", 0, ("implies", P(0, 0), reply)), ("all", 0, ("not", reply)))
        self.assertEqual(problem.held(), [P(0, ((2, 1, 0), ())), axiom])
        self.assertEqual(problem.held()[1], question_axiom(5, question))
        self.assertEqual(problem.against(), [P(0, ((2, 1, 0), ())), ("not", question)])
        self.assertEqual(problem.question_told().name, "b")
        self.assertIs(problem.question_told(), problem.told[1])

    def test_given_clauses(self):
        problem = read_problem("next 2\naxiom a: p and (all x. q(x))\ngoal b: p or q(c)\nnext 9\naxiom e: some y. q(y)")
        self.assertEqual(list(problem.given_clauses()), [2, 3, 9])
        self.assertEqual(problem.given_clauses(), {k: clauses_of(k, f) for k, f in zip([2, 3, 9], problem.held())})
        self.assertEqual(problem.given_clauses()[9], [((True, ((1, 1, 0), (((3, 9, 0), ()),)), TRUTH),)])
        question = read_problem("question a: some x. p(x)")
        self.assertEqual(question.given_clauses(), {0: [
            ((False, ((1, 0, 0), (0,)), TRUTH), (True, ((5, 0, 0), (0,)), TRUTH)), ((False, ((5, 0, 0), (0,)), TRUTH),)]})
        problem.given_clauses().clear()
        self.assertEqual(len(problem.given_clauses()), 3)

    def test_the_order_is_that_of_what_is_told(self):
        problem = Problem([(True, "p"), (True, "q")], [], [
            Told("a", 7, "axiom", P(0), "axiom a: p"), Told("b", 3, "goal", P(1), "goal b: q")], 8)
        self.assertEqual(list(problem.given_clauses()), [7, 3])
        self.assertEqual(problem.held(), [P(0), ("not", P(1))])

    def test_name_of(self):
        problem = read_problem("axiom a: p\nnext 5\ngoal b: p")
        self.assertEqual([problem.name_of(k) for k in (0, 1, 4, 5, 6)], ["a", None, None, "b", None])

    def test_the_empty_problem(self):
        problem = read_problem("")
        self.assertEqual(fields(problem), ([], [], [], 0))
        self.assertEqual((problem.held(), problem.against(), problem.given_clauses(), problem.symbol_weights()), ([], [], {}, {}))
        self.assertIsNone(problem.question_told())
        self.assertEqual(problem.as_text(), "")


class ReadingTest(unittest.TestCase):
    def test_each_kind_of_line(self):
        self.assertEqual(fields(read_problem("axiom a: p(c)")),
                         ([(True, "p"), (False, "c")], [], [("a", 0, "axiom", P(0, ((2, 1, 0), ())), "axiom a: p(c)")], 1))
        self.assertEqual(fields(read_problem("goal a: p")), ([(True, "p")], [], [("a", 0, "goal", P(0), "goal a: p")], 1))
        self.assertEqual(fields(read_problem("question a: p")),
                         ([(True, "p")], [], [("a", 0, "question", P(0), "question a: p")], 1))
        self.assertEqual(fields(read_problem("predicate p")), ([(True, "p")], [], [], 0))
        self.assertEqual(fields(read_problem("function p")), ([(False, "p")], [], [], 0))
        self.assertEqual(fields(read_problem("weight p 12")), ([], [("p", 12)], [], 0))
        self.assertEqual(fields(read_problem("next 12")), ([], [], [], 12))

    def test_empty_lines_remarks_and_tabs(self):
        text = "\n\t \n# axiom x\naxiom\ta :p# why\n   # more\n\n goal b:q \n"
        self.assertEqual(told_rows(read_problem(text)), [
            ("a", 0, "axiom", P(0), "axiom\ta :p# why"), ("b", 1, "goal", P(1), " goal b:q ")])
        for text in ["", "\n", "\n\n\n", " ", "# only a remark", "\t\n#"]:
            self.assertEqual(fields(read_problem(text)), ([], [], [], 0))

    def test_words_of_lines_as_names(self):
        for word in WORDS:
            text = f"axiom {word}: {word}({word})\npredicate {word}_\nfunction _{word}\nweight {word} 3"
            self.assertEqual(fields(read_problem(text)), (
                [(True, word), (False, word), (True, word + "_"), (False, "_" + word)], [(word, 3)],
                [(word, 0, "axiom", P(0, ((2, 1, 0), ())), text.split("\n")[0])], 1))
            self.assertEqual(read_problem(f"predicate {word}\nfunction {word}").names, [(True, word), (False, word)])
        self.assertEqual(read_problem("axiom 0: 1(2)\nweight 3 4").heavy, [("3", 4)])

    def test_numbers(self):
        text = "axiom a: p\naxiom b: p\nnext 2\naxiom c: p\nnext 10\nnext 10\nnext 20\naxiom d: p\naxiom e: p"
        problem = read_problem(text)
        self.assertEqual([told.number for told in problem.told], [0, 1, 2, 20, 21])
        self.assertEqual(problem.next_number, 22)
        self.assertEqual(read_problem("next 0\naxiom a: p").told[0].number, 0)
        self.assertEqual(read_problem("next 3\nnext 7").next_number, 7)

    def test_the_order_of_the_table_of_names(self):
        text = "function a\naxiom one: p(b, a)\npredicate q\naxiom two: r(q)\nfunction p\ngoal three: q = b"
        self.assertEqual(read_problem(text).names, [
            (False, "a"), (True, "p"), (False, "b"), (True, "q"), (True, "r"), (False, "q"), (False, "p")])

    def test_names_that_are_told_in_different_ways(self):
        # What is told, the table and the weights do not touch each other.
        text = "axiom p: p\nfunction p\nweight p 3\naxiom q: p = p"
        self.assertEqual(fields(read_problem(text))[:2], ([(True, "p"), (False, "p")], [("p", 3)]))

    def test_bounds_that_are_kept(self):
        for number in (1, 2, 1000):
            self.assertEqual(read_problem(f"weight f {number}").heavy, [("f", number)])
        for number in (0, 1, 1000000):
            self.assertEqual(read_problem(f"next {number}").next_number, number)
        self.assertEqual(read_problem("next 999999\naxiom a: p").next_number, 1000000)
        text = "\n".join(f"axiom a{k}: p" for k in range(100))
        self.assertEqual(len(read_problem(text).told), 100)


class FaultsTest(unittest.TestCase):
    def check(self, text, line, column, expected):
        self.assertEqual(fault_of(text), (line, column, expected), text)

    def check_end(self, text, expected):
        self.check(text, 1, len(text) + 1, expected)
        self.check(f"\n{text}\naxiom ok: p", 2, len(text) + 1, expected)
        for tail in [" ", "\t", "  # more"]:
            self.check(text + tail, 1, len(text + tail) + 1, expected)

    def test_the_start_of_a_line(self):
        for wrong in ["foo", "without", "without a", "Axiom a: p", "axioms", "p", "0", ":", "(", "?", "all x. p", "x" * 41]:
            self.check(wrong, 1, 1, START)
            self.check(f"axiom a: p\n\n \t{wrong}", 3, 3, START)

    def test_names(self):
        for word in WORDS[:-1]:
            if word != "next":
                self.check_end(word, "a name")
                for wrong in KEY_WORDS + [":", "(", "=", "?", "n" * 41]:
                    self.check(f"{word} {wrong} x", 1, len(word) + 2, "a name")

    def test_colons(self):
        for word in WORDS[:3]:
            self.check_end(f"{word} a", ":")
            for wrong in ["p", "b: p", "(", "=", ".", "?", "and"]:
                self.check(f"{word} a {wrong}", 1, len(word) + 4, ":")

    def test_formulas(self):
        for word in WORDS[:3]:
            self.check_end(f"{word} a:", "a formula")
            self.check_end(f"{word} a: p and", "a formula")
            self.check_end(f"{word} a: not", "a formula")
            self.check_end(f"{word} a: f =", "a term")
            self.check_end(f"{word} a: all", "a name")
            self.check_end(f"{word} a: all x", "a name or .")
            self.check_end(f"{word} a: p(b", ", or )")
            self.check_end(f"{word} a: all x. x", "= or !=")
            self.check_end(f"{word} a: (p", "and, or, implies, iff or )")
            at = len(word) + 5
            self.check(f"{word} a: )", 1, at, "a formula")
            self.check(f"{word} a: p q", 1, at + 2, "and, or, implies, iff or the end")
            self.check(f"{word} a: p and q or r", 1, at + 8, "and or the end")
            self.check(f"{word} a: p or q and r", 1, at + 7, "or or the end")
            self.check(f"{word} a: p iff q iff r", 1, at + 8, "the end")
            self.check(f"{word} a: p :", 1, at + 2, "and, or, implies, iff or the end")
            self.check(f"{word} a: : p", 1, at, "a formula")
            self.check(f"{word} a:   " + "(" * 41 + "p" + ")" * 41, 1, at + 2, "less nesting")
            self.check(f"{word} a: ? " + "not " * 61 + "p", 1, at, "less nesting")
            self.check(f"{word} a: p" + " and p" * 100, 1, at, "less nesting")
        # Tokens before the formula do not count.
        self.assertIsNone(fault_of("axiom a: not p" + " and p" * 99))
        self.assertIsNone(fault_of("axiom a: " + "(" * 40 + "p" + ")" * 40))

    def test_nesting_is_checked_when_the_tokens_before_the_formula_fit(self):
        self.check("axiom a " + "(" * 41, 1, 9, ":")
        self.check("axiom not : " + "(" * 41, 1, 7, "a name")

    def test_the_end_of_lines(self):
        for text, wrong in [("predicate p", "q"), ("function f", "3"), ("weight f 3", "4"), ("next 3", "4"), ("next 3", "("),
                            ("predicate p", ":"), ("function f", "?"), ("weight f 3", "and")]:
            self.check(f"{text} {wrong} x", 1, len(text) + 2, "the end")

    def test_weights(self):
        expected = "a number from 1 to 1000"
        self.check_end("weight f", expected)
        for wrong in ["0", "1001", "00", "01", "0999", "1_0", "x", "1a", "-", "-1", "+1", "(", "all", "9" * 40, "9" * 41,
                      "1" * 6000]:
            self.check(f"weight f {wrong}", 1, 10, expected)
        self.check("weight f 1.5", 1, 11, "the end")

    def test_next(self):
        expected = "a number from 0 to 1000000"
        self.check_end("next", expected)
        for wrong in ["1000001", "00", "01", "000", "x", "-", "-1", "(", "not", "9" * 40, "9" * 41, "1" * 6000]:
            self.check(f"next {wrong}", 1, 6, expected)

    def test_a_greater_number(self):
        self.check("next 5\nnext 4", 2, 6, "a greater number")
        self.check("axiom a: p\n next  0", 2, 8, "a greater number")
        self.check("next 5\naxiom a: p\nnext 5", 3, 6, "a greater number")
        self.assertIsNone(fault_of("next 5\naxiom a: p\nnext 6"))
        self.check("next 1000000\nnext 999999", 2, 6, "a greater number")
        self.check("next 5\nnext 4 x", 2, 8, "the end")
        self.check("next 5\nnext 04", 2, 6, "a number from 0 to 1000000")

    def test_another_name(self):
        for one in WORDS[:3]:
            for two in WORDS[:3]:
                self.check(f"{one} a: p\n{two}  a: q", 2, len(two) + 3, "another name")
        self.check("predicate p\npredicate p", 2, 11, "another name")
        self.check("function p\nfunction p", 2, 10, "another name")
        self.check("axiom a: p(c)\npredicate p", 2, 11, "another name")
        self.check("axiom a: p(c)\nfunction c", 2, 10, "another name")
        self.check("axiom a: p(c)\nfunction p\nfunction p", 3, 10, "another name")
        self.check("weight p 3\nweight p 3", 2, 8, "another name")
        self.check("weight p 3\nweight q 3\nweight p 4", 3, 8, "another name")
        for text in ["predicate p\nfunction p", "axiom a: p(c)\nfunction p\npredicate c", "axiom a: p\naxiom p: a",
                     "weight p 3\npredicate p\nfunction p"]:
            self.assertIsNone(fault_of(text), text)

    def test_no_second_goal_or_question(self):
        for one in ("goal", "question"):
            for two in ("goal", "question"):
                self.check(f"{one} a: p\n{two}  b: q", 2, len(two) + 3, "no second goal or question")
                self.check(f"{one} a: p\naxiom b: q\n{two} c: q", 3, len(two) + 2, "no second goal or question")
            self.assertIsNone(fault_of(f"axiom a: p\n{one} b: p\naxiom c: p"))

    def test_less(self):
        hundred = "\n".join(f"axiom a{k}: p" for k in range(99))
        for word in WORDS[:3]:
            text = f"{hundred}\n{word} b: p"
            self.assertIsNone(fault_of(text))
            for other in ("axiom",) if word != "axiom" else WORDS[:3]:
                self.check(f"{text}\n{other}  c: p", 101, len(other) + 3, "less")
            self.check(f"next 1000000\n{word} a: p", 2, len(word) + 2, "less")
            self.assertIsNone(fault_of(f"next 999999\n{word} a: p"))
            self.check(f"next 999999\naxiom a: p\n{word} b: p", 3, len(word) + 2, "less")
        self.assertIsNone(fault_of(f"{hundred}\naxiom b: p\npredicate q\nfunction q\nweight q 3\nnext 500"))

    def test_the_order_of_the_checks(self):
        hundred = "goal g: p\n" + "\n".join(f"axiom a{k}: p" for k in range(99))
        self.check(f"{hundred}\ngoal g: p", 101, 6, "another name")
        self.check(f"{hundred}\ngoal a7: p", 101, 6, "another name")
        self.check(f"{hundred}\nquestion b: p", 101, 10, "no second goal or question")
        self.check(f"{hundred}\naxiom b: p", 101, 7, "less")
        # Tokens that do not fit come before all of them.
        self.check(f"{hundred}\ngoal g: p q", 101, 11, "and, or, implies, iff or the end")
        self.check(f"{hundred}\ngoal g:", 101, 8, "a formula")
        self.check("predicate p\npredicate p q", 2, 13, "the end")
        self.check("weight p 3\nweight p 0", 2, 10, "a number from 1 to 1000")
        self.check("weight p 3\nweight p 4 5", 2, 12, "the end")

    def test_the_first_of_two_faulty_lines(self):
        self.check("axiom a: p q\nfoo", 1, 12, "and, or, implies, iff or the end")
        self.check("axiom a: p\naxiom a: p\nfoo", 2, 7, "another name")
        self.check("axiom a: p\nfoo\naxiom a: p", 2, 1, START)

    def test_the_columns_behind_tabs_and_remarks(self):
        self.check("\taxiom\ta\t:\t?", 1, 12, "a formula")
        self.check("axiom a: # p", 1, 13, "a formula")
        self.check("next # 5", 1, 9, "a number from 0 to 1000000")


class EditsTest(unittest.TestCase):
    def setUp(self):
        self.problem = read_problem("weight p 5\naxiom a: p(c)\ngoal b: q\nnext 7\naxiom d: r")
        self.before = fields(self.problem)

    def tearDown(self):
        self.assertEqual(fields(self.problem), self.before)

    def check(self, text, line, column, expected):
        self.assertEqual(fault_of(text, self.problem), (line, column, expected), text)

    def told(self, text):
        return [(told.name, told.number, told.kind) for told in edited(self.problem, text).told]

    def test_lines_that_tell(self):
        after = edited(self.problem, "axiom e: s(p)\n\n# remark\n axiom f: c = c # why")
        names = [(True, "p"), (False, "c"), (True, "q"), (True, "r"), (True, "s"), (False, "p")]
        self.assertEqual(fields(after), (names, [("p", 5)], self.before[2] + [
            ("e", 8, "axiom", P(4, ((2, 5, 0), ())), "axiom e: s(p)"),
            ("f", 9, "axiom", ("equal", ((2, 1, 0), ()), ((2, 1, 0), ())), " axiom f: c = c # why")], 10))

    def test_without(self):
        after = edited(self.problem, "without a")
        self.assertEqual(fields(after), (self.before[0], [("p", 5)], self.before[2][1:], 8))
        self.assertEqual(self.told("without d\n without b # why"), [("a", 0, "axiom")])
        self.assertEqual(self.told("without a\nwithout b\nwithout d"), [])
        self.assertEqual(edited(self.problem, "without a\nwithout b\nwithout d").next_number, 8)

    def test_lines_take_effect_one_after_the_other(self):
        self.assertEqual(self.told("without a\naxiom a: p"), [("b", 1, "goal"), ("d", 7, "axiom"), ("a", 8, "axiom")])
        self.assertEqual(self.told("without b\nquestion e: p"), [("a", 0, "axiom"), ("d", 7, "axiom"), ("e", 8, "question")])
        self.assertEqual(self.told("axiom e: p\nwithout e\naxiom e: p"),
                         [("a", 0, "axiom"), ("b", 1, "goal"), ("d", 7, "axiom"), ("e", 9, "axiom")])
        self.check("without a\nwithout a", 2, 9, "the name of something told")
        self.check("axiom a: p\nwithout a", 1, 7, "another name")

    def test_an_edit_without_lines(self):
        for text in ["", "\n", " # remark\n\t"]:
            self.assertEqual(fields(edited(self.problem, text)), self.before)
            self.assertIsNot(edited(self.problem, text), self.problem)

    def test_the_start_of_a_line(self):
        for wrong in ["predicate s", "function s", "weight s 3", "next 9", "foo", ":", "?", "without_ a", "p"]:
            self.check(wrong, 1, 1, EDIT_START)
            self.check(f"axiom e: p\n\t{wrong}", 2, 2, EDIT_START)

    def test_names_behind_without(self):
        self.check("without", 1, 8, "a name")
        self.check("without # a", 1, 12, "a name")
        for wrong in KEY_WORDS + [":", "(", "?", "n" * 41]:
            self.check(f"without {wrong}", 1, 9, "a name")
        self.check("without a b", 1, 11, "the end")
        self.check("without x y", 1, 11, "the end")
        self.check("without a:", 1, 10, "the end")
        for name in ["x", "p", "c", "A", "axiom", "0"]:
            self.check(f"without  {name}", 1, 10, "the name of something told")

    def test_words_of_lines_as_names(self):
        for word in WORDS:
            self.assertEqual(self.told(f"axiom {word}: p\nwithout {word}\naxiom {word}: p")[3:], [(word, 9, "axiom")])

    def test_faults_of_lines_that_tell(self):
        self.check("axiom e", 1, 8, ":")
        self.check("axiom e: p q", 1, 12, "and, or, implies, iff or the end")
        self.check("axiom e:", 1, 9, "a formula")
        self.check("goal e: p", 1, 6, "no second goal or question")
        self.check("question e: p", 1, 10, "no second goal or question")
        self.check("goal b: p", 1, 6, "another name")
        self.check("goal", 1, 5, "a name")
        self.check("without b\ngoal e: p\nquestion f: p", 3, 10, "no second goal or question")

    def test_less(self):
        text = "\n".join(f"axiom e{k}: p" for k in range(97))
        self.assertEqual(len(edited(self.problem, text).told), 100)
        self.check(f"{text}\naxiom f: p", 98, 7, "less")
        self.assertIsNone(fault_of(f"{text}\nwithout a\naxiom f: p", self.problem))
        last = read_problem("next 999999\naxiom a: p")
        self.assertEqual(fault_of("without a\naxiom b: p", last), (2, 7, "less"))
        self.assertEqual(edited(last, "without a").next_number, 1000000)

    def test_a_faulty_line_behind_good_ones(self):
        self.check("without a\nwithout d\naxiom e: s(t)\nfoo", 4, 1, EDIT_START)

    def test_the_names_of_what_was_removed_stay_in_the_table(self):
        after = edited(self.problem, "without a\nwithout b\nwithout d\naxiom e: r")
        self.assertEqual(after.names, self.before[0])
        self.assertEqual(after.told[0].formula, P(3))

    def test_changing_the_result_does_not_change_the_problem(self):
        after = edited(self.problem, "")
        for one in (after.names, after.heavy, after.told):
            one.clear()
        self.assertEqual(fields(self.problem), self.before)


class TextTest(unittest.TestCase):
    def check(self, problem, lines):
        self.assertEqual(problem.as_text(), "\n".join(lines))
        self.assertEqual(fields(read_problem(problem.as_text())), fields(problem))

    def test_names_weights_and_lines(self):
        text = "axiom a:p(c)# why\nweight f 3\n\n function f\n  goal\tb: c=f # x\nweight c 1000\npredicate f"
        self.check(read_problem(text), [
            "predicate p", "function c", "function f", "predicate f", "weight f 3", "weight c 1000",
            "axiom a:p(c)# why", "  goal\tb: c=f # x"])

    def test_the_empty_problem(self):
        self.check(read_problem(""), [""])
        self.check(read_problem("# nothing\n\n"), [""])

    def test_lines_next(self):
        self.check(read_problem("next 0\naxiom a: p\nnext 1\naxiom b: p"), ["predicate p", "axiom a: p", "axiom b: p"])
        self.check(read_problem("next 3\naxiom a: p\nnext 4\naxiom b: p\nnext 5\nnext 9\nnext 10\naxiom c: p"), [
            "predicate p", "next 3", "axiom a: p", "axiom b: p", "next 10", "axiom c: p"])
        self.check(read_problem("next 3"), ["next 3"])
        self.check(read_problem("axiom a: p\nnext 1"), ["predicate p", "axiom a: p"])
        self.check(read_problem("axiom a: p\nnext 2"), ["predicate p", "axiom a: p", "next 2"])
        self.check(read_problem("predicate p\nnext 1000000"), ["predicate p", "next 1000000"])

    def test_problems_after_edits(self):
        problem = read_problem("axiom a: p\naxiom b: q\ngoal c: r")
        self.check(edited(problem, "without a"), ["predicate p", "predicate q", "predicate r", "next 1", "axiom b: q", "goal c: r"])
        self.check(edited(problem, "without b"), [
            "predicate p", "predicate q", "predicate r", "axiom a: p", "next 2", "goal c: r"])
        self.check(edited(problem, "without c"), [
            "predicate p", "predicate q", "predicate r", "axiom a: p", "axiom b: q", "next 3"])
        self.check(edited(problem, "without a\nwithout b\nwithout c"), ["predicate p", "predicate q", "predicate r", "next 3"])
        self.check(edited(problem, "without a\naxiom a: s(t)"), [
            "predicate p", "predicate q", "predicate r", "predicate s", "function t",
            "next 1", "axiom b: q", "goal c: r", "axiom a: s(t)"])
        self.check(edited(edited(problem, "without a\naxiom d: s"), "without d\n\t"), [
            "predicate p", "predicate q", "predicate r", "predicate s", "next 1", "axiom b: q", "goal c: r", "next 4"])

    def test_a_name_that_is_both(self):
        self.check(read_problem("axiom a: p(p)\nweight p 2"), ["predicate p", "function p", "weight p 2", "axiom a: p(p)"])
        self.check(read_problem("axiom a: p = p\naxiom b: p"), ["function p", "predicate p", "axiom a: p = p", "axiom b: p"])

    def test_reading_the_text_gives_the_same_text(self):
        text = "\n".join(["weight z 9", "axiom 1: all x. some y. f(x) = y or not p(x, y)", "next 50", "question 2: some u. p(u, u)"])
        problem = read_problem(text)
        self.assertEqual(read_problem(problem.as_text()).as_text(), problem.as_text())
