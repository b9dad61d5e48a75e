import random
import unittest

from lastproof.errors import TextFault
from lastproof.formulas.formulas import free_variables
from lastproof.formulas.parsing import parse_formula
from lastproof.formulas.tokens import tokens
from tests.formula_samples import random_formula

KEY_WORDS = ["all", "some", "not", "and", "or", "implies", "iff"]


def parse(text, names=(), line=1):
    return parse_formula(tokens(text, line), (line, len(text) + 1), list(names))


def P(n, *arguments):
    return ("atom", ((1, n, 0), arguments))


def F(n, *arguments):
    return ((2, n, 0), arguments)


def fault_of(items, end, names=()):
    try:
        parse_formula(items, end, list(names))
    except TextFault as fault:
        return (fault.line, fault.column, fault.expected)
    return None


class FormulasTest(unittest.TestCase):
    def check(self, text, formula, names, before=()):
        self.assertEqual(parse(text, before), (formula, names), text)

    def test_the_example_of_the_interface(self):
        self.check("all x. p(x)", ("all", 0, P(0, 0)), [(True, "p")])

    def test_atoms(self):
        self.check("p", P(0), [(True, "p")])
        self.check("p(a)", P(0, F(1)), [(True, "p"), (False, "a")])
        self.check("p(f(a, b), a)", P(0, F(1, F(2), F(3)), F(2)),
                   [(True, "p"), (False, "f"), (False, "a"), (False, "b")])
        self.check("p ( a ,b )", P(0, F(1), F(2)), [(True, "p"), (False, "a"), (False, "b")])

    def test_equalities(self):
        self.check("a = b", ("equal", F(0), F(1)), [(False, "a"), (False, "b")])
        self.check("a != b", ("not", ("equal", F(0), F(1))), [(False, "a"), (False, "b")])
        self.check("f(a) = f(b)", ("equal", F(0, F(1)), F(0, F(2))), [(False, "f"), (False, "a"), (False, "b")])
        self.check("not a != b", ("not", ("not", ("equal", F(0), F(1)))), [(False, "a"), (False, "b")])
        self.check("all x y. x = y", ("all", 0, ("all", 1, ("equal", 0, 1))), [])
        self.check("all x. x != f(x)", ("all", 0, ("not", ("equal", 0, F(0, 0)))), [(False, "f")])
        self.check("all x. f(x) = x", ("all", 0, ("equal", F(0, 0), 0)), [(False, "f")])

    def test_each_joining_word(self):
        names = [(True, "p"), (True, "q")]
        for word in ("and", "or", "implies", "iff"):
            self.check(f"p {word} q", (word, P(0), P(1)), names)
            self.check(f"p {word} not q", (word, P(0), ("not", P(1))), names)
            self.check(f"not p {word} q", (word, ("not", P(0)), P(1)), names)
            self.check(f"not (p {word} q)", ("not", (word, P(0), P(1))), names)

    def test_more_than_two_parts_associate_to_the_left(self):
        names = [(True, "p"), (True, "q"), (True, "r"), (True, "s")]
        for word in ("and", "or"):
            three = (word, (word, P(0), P(1)), P(2))
            self.check(f"p {word} q {word} r", three, names[:3])
            self.check(f"p {word} q {word} r {word} s", (word, three, P(3)), names)
            self.check(f"p {word} (q {word} r)", (word, P(0), (word, P(1), P(2))), names[:3])

    def test_parentheses(self):
        names = [(True, "p"), (True, "q"), (True, "r")]
        self.check("((p))", P(0), names[:1])
        self.check("(p implies q) implies r", ("implies", ("implies", P(0), P(1)), P(2)), names)
        self.check("p implies (q iff r)", ("implies", P(0), ("iff", P(1), P(2))), names)
        self.check("(p and q) or r", ("or", ("and", P(0), P(1)), P(2)), names)
        self.check("(a = b)", ("equal", F(0), F(1)), [(False, "a"), (False, "b")])

    def test_not_behind_not(self):
        self.check("not not not p", ("not", ("not", ("not", P(0)))), [(True, "p")])
        self.check("not p and q", ("and", ("not", P(0)), P(1)), [(True, "p"), (True, "q")])

    def test_quantifiers_extend_as_far_as_possible(self):
        names = [(True, "p"), (True, "q")]
        self.check("all x. p(x) and q", ("all", 0, ("and", P(0, 0), P(1))), names)
        self.check("(all x. p(x)) and q", ("and", ("all", 0, P(0, 0)), P(1)), names)
        self.check("q and (some x. p(x) or q)", ("and", P(0), ("some", 0, ("or", P(1, 0), P(0)))),
                   [(True, "q"), (True, "p")])
        self.check("not (all x. p(x))", ("not", ("all", 0, P(0, 0))), names[:1])
        self.check("(all x. p(x))", ("all", 0, P(0, 0)), names[:1])

    def test_several_names_and_several_quantifiers(self):
        self.check("all x y z. p(z, x, y)", ("all", 0, ("all", 1, ("all", 2, P(0, 2, 0, 1)))), [(True, "p")])
        self.check("some x y. p(y)", ("some", 0, ("some", 1, P(0, 1))), [(True, "p")])
        self.check("all x. some y. all z. p(x, y, z)", ("all", 0, ("some", 1, ("all", 2, P(0, 0, 1, 2)))),
                   [(True, "p")])

    def test_names_that_are_bound_again(self):
        self.check("all x. p(x) and (some x. p(x)) and p(x)",
                   ("all", 0, ("and", ("and", P(0, 0), ("some", 1, P(0, 1))), P(0, 0))), [(True, "p")])
        self.check("all x x. p(x)", ("all", 0, ("all", 1, P(0, 1))), [(True, "p")])
        self.check("all x y x. p(x, y)", ("all", 0, ("all", 1, ("all", 2, P(0, 2, 1)))), [(True, "p")])
        self.check("all x. all x. p(x)", ("all", 0, ("all", 1, P(0, 1))), [(True, "p")])

    def test_each_quantified_name_has_a_variable_of_its_own(self):
        self.check("(all x. p(x)) and (all x. p(x)) and (some y. p(y))",
                   ("and", ("and", ("all", 0, P(0, 0)), ("all", 1, P(0, 1))), ("some", 2, P(0, 2))), [(True, "p")])
        self.check("(all x. (some y. p(y)) or p(x)) and (all z. p(z))",
                   ("and", ("all", 0, ("or", ("some", 1, P(0, 1)), P(0, 0))), ("all", 2, P(0, 2))), [(True, "p")])

    def test_a_name_outside_of_its_quantifier_is_not_bound(self):
        self.check("(all x. p(x)) and p(x)", ("and", ("all", 0, P(0, 0)), P(0, F(1))), [(True, "p"), (False, "x")])
        self.check("p(x) and (all x. p(x))", ("and", P(0, F(1)), ("all", 0, P(0, 0))), [(True, "p"), (False, "x")])
        self.check("(all x. p(x)) and x", ("and", ("all", 0, P(0, 0)), P(1)), [(True, "p"), (True, "x")])

    def test_the_same_name_as_predicate_and_function(self):
        self.check("p(p(p))", P(0, F(1, F(1))), [(True, "p"), (False, "p")])
        self.check("p = p and p", ("and", ("equal", F(0), F(0)), P(1)), [(False, "p"), (True, "p")])
        self.check("p(a) != p", ("not", ("equal", F(0, F(1)), F(0))), [(False, "p"), (False, "a")])

    def test_a_name_with_different_numbers_of_arguments_is_one_symbol(self):
        self.check("p and p(a) and p(a(a), a)",
                   ("and", ("and", P(0), P(0, F(1))), P(0, F(1, F(1)), F(1))), [(True, "p"), (False, "a")])

    def test_new_names_are_appended_in_the_order_of_the_text(self):
        self.assertEqual(parse("f(g(a), b) = h(c) implies p(d, q(e))")[1],
                         [(False, n) for n in "fgabhc"] + [(True, "p"), (False, "d"), (False, "q"), (False, "e")])
        self.assertEqual(parse("p(b, a) and a(b)")[1], [(True, "p"), (False, "b"), (False, "a"), (True, "a")])

    def test_a_table_that_is_passed(self):
        before = [(False, "a"), (True, "q"), (False, "p"), (True, "p")]
        self.check("p(a, p, b)", P(3, F(0), F(2), F(4)), before + [(False, "b")], before)
        self.check("q", P(1), before, before)
        self.check("a", P(4), before + [(True, "a")], before)
        self.check("all a. p(a)", ("all", 0, P(3, 0)), before, before)

    def test_the_table_that_is_passed_stays(self):
        before = [(True, "q")]
        _, after = parse_formula(tokens("p(a)", 1), (1, 5), before)
        self.assertEqual(before, [(True, "q")])
        after.clear()
        self.assertEqual(before, [(True, "q")])
        _, same_names = parse_formula(tokens("q", 1), (1, 2), before)
        same_names.append((True, "r"))
        self.assertEqual(before, [(True, "q")])
        with self.assertRaises(TextFault):
            parse_formula(tokens("p(a) and s(", 1), (1, 5), before)
        self.assertEqual(before, [(True, "q")])

    def test_the_tokens_that_are_passed_stay(self):
        items = tokens("all x. p(x)", 1)
        parse_formula(items, (1, 12), [])
        self.assertEqual(items, tokens("all x. p(x)", 1))

    def test_words_of_lines_are_names(self):
        for word in ("axiom", "goal", "question", "predicate", "function", "weight", "next", "without", "0", "12", "_",
                     "ALL", "All", "Not", "all_", "end", "a" * 40):
            self.check(word, P(0), [(True, word)])
            self.check(f"p({word})", P(0, F(1)), [(True, "p"), (False, word)])
            self.check(f"all {word}. p({word})", ("all", 0, P(0, 0)), [(True, "p")])

    def test_reading_gives_back_what_was_written(self):
        source = random.Random(41)
        for _ in range(400):
            formula = random_formula(source, 4)
            names = [(True, f"p{k}") for k in range(3)] + [(False, f"f{k}") for k in range(3, 10)]
            text = spelled(source, formula, {})
            if len(tokens(text, 1)) <= 200:
                self.assertEqual(parse(text, names), (renamed(formula, {}, [0]), names))


def spelled(source, formula, scope):
    """A text of the formula, in which names are bound again where this does not change what is meant."""
    word = formula[0]
    if word in ("all", "some"):
        needed = [scope[variable] for variable in free_variables(formula)]
        name = source.choice([name for name in "xyzu" if name not in needed])
        return f"{word} {name}. {spelled(source, formula[2], {**scope, formula[1]: name})}"
    if word == "atom":
        return spelled_term(formula[1], scope, "p")
    if word == "equal":
        return f"{spelled_term(formula[1], scope, 'f')} = {spelled_term(formula[2], scope, 'f')}"
    if word == "not":
        return f"not {spelled_part(source, formula[1], scope)}"
    return f"{spelled_part(source, formula[1], scope)} {word} {spelled_part(source, formula[2], scope)}"


def spelled_part(source, formula, scope):
    text = spelled(source, formula, scope)
    return text if formula[0] in ("atom", "equal", "not") else f"({text})"


def spelled_term(term, scope, letter):
    if isinstance(term, int):
        return scope[term]
    word = letter + str(term[0][1])
    return word + ("(" + ",".join(spelled_term(argument, scope, "f") for argument in term[1]) + ")" if term[1] else "")


def renamed(formula, scope, made):
    """The formula with variables in the order of the text."""
    word = formula[0]
    if word in ("all", "some"):
        variable = made[0]
        made[0] += 1
        return (word, variable, renamed(formula[2], {**scope, formula[1]: variable}, made))
    if word in ("atom", "equal"):
        return (word,) + tuple(renamed_term(term, scope) for term in formula[1:])
    return (word,) + tuple(renamed(part, scope, made) for part in formula[1:])


def renamed_term(term, scope):
    if isinstance(term, int):
        return scope[term]
    return (term[0], tuple(renamed_term(argument, scope) for argument in term[1]))


class FaultsTest(unittest.TestCase):
    def check(self, text, column, expected):
        """A fault at a column of line 7, or at the end, which is passed as another place, if it is None."""
        wanted = (99, 1234, expected) if column is None else (7, column, expected)
        self.assertEqual(fault_of(tokens(text, 7), (99, 1234)), wanted, text)

    def test_the_example_of_the_interface(self):
        self.check("all x. x", None, "= or !=")
        self.assertEqual(fault_of(tokens("all x. x", 1), (1, 9)), (1, 9, "= or !="))

    def test_no_tokens(self):
        self.check("", None, "a formula")

    def test_where_a_formula_must_begin(self):
        for wrong in [")", ",", ".", ":", "=", "!=", "and", "or", "implies", "iff", "!", "?", "[", "$", "b" * 41]:
            self.check(wrong, 1, "a formula")
            self.check(f"({wrong}", 2, "a formula")
            self.check(f"all x. {wrong}", 8, "a formula")
        self.check("(", None, "a formula")
        self.check("all x.", None, "a formula")
        self.check("()", 2, "a formula")

    def test_where_a_part_must_begin(self):
        for word in ("and", "or", "implies", "iff"):
            column = len(word) + 4
            self.check(f"p {word}", None, "a formula")
            for wrong in [")", ",", "=", "and", "iff", "all", "some", "all x. p", "!"]:
                self.check(f"p {word} {wrong}", column, "a formula")
        for wrong in [")", "all", "some x. p(x)", "and", "=", "?"]:
            self.check(f"not {wrong}", 5, "a formula")
            self.check(f"not not {wrong}", 9, "a formula")
            self.check(f"p and q and {wrong}", 13, "a formula")
            self.check(f"p or q or {wrong}", 11, "a formula")
        self.check("not", None, "a formula")
        self.check("not not", None, "a formula")

    def test_where_a_term_must_begin(self):
        for wrong in [")", "(", ",", ".", "=", "!=", "not", "all", "some", "and", "iff", "?", "-", "w" * 41]:
            self.check(f"a = {wrong}", 5, "a term")
            self.check(f"a != {wrong}", 6, "a term")
            self.check(f"p({wrong}", 3, "a term")
            self.check(f"p(a, {wrong}", 6, "a term")
            self.check(f"p(f({wrong}", 5, "a term")
            self.check(f"(f(a) = {wrong}", 9, "a term")
            self.check(f"all x. x = {wrong}", 12, "a term")
        for text in ["a =", "a !=", "p(", "p(a,", "p(f(", "p(f(a,", "a = f(", "all x. x ="]:
            self.check(text, None, "a term")

    def test_names_behind_quantifiers(self):
        for word in ("all", "some"):
            column = len(word) + 2
            self.check(word, None, "a name")
            self.check(f"{word} x", None, "a name or .")
            self.check(f"{word} x y", None, "a name or .")
            for wrong in [".", "(", ")", ",", "=", "?", "v" * 41] + KEY_WORDS:
                self.check(f"{word} {wrong}", column, "a name")
            for wrong in ["(", ")", ",", ":", "=", "?", "v" * 41] + KEY_WORDS:
                self.check(f"{word} x {wrong}", column + 2, "a name or .")
                self.check(f"{word} x y {wrong}", column + 4, "a name or .")

    def test_behind_terms_in_parentheses(self):
        for wrong in ["b", "=", "!=", ".", "and", "not", "all", "?", ":"]:
            self.check(f"p(a {wrong}", 5, ", or )")
            self.check(f"p(a, b {wrong}", 8, ", or )")
            self.check(f"p(f(a) {wrong}", 8, ", or )")
            self.check(f"b = f(a {wrong}", 9, ", or )")
            self.check(f"all x. p(x {wrong}", 12, ", or )")
        self.check("p(a", None, ", or )")
        self.check("p(a, b", None, ", or )")
        self.check("p(f(a)", None, ", or )")
        self.check("p(f(a", None, ", or )")
        # A bound name has no arguments.
        self.check("all x. p(x(a))", 11, ", or )")
        self.check("all x. p(a, x(a))", 14, ", or )")
        self.check("p(a(", None, "a term")

    def test_behind_bound_names(self):
        for wrong in ["(", "(a)", ")", ",", ".", "and p", "x", "?", ":", "not"]:
            self.check(f"all x. x {wrong}", 10, "= or !=")
            self.check(f"some x. not x {wrong}", 15, "= or !=")
            self.check(f"all x. (x {wrong}", 11, "= or !=")
            self.check(f"all x. p and x {wrong}", 16, "= or !=")
        self.check("all x. not x", None, "= or !=")
        self.check("all p. p(a)", 9, "= or !=")
        self.check("(all x. x)", 10, "= or !=")

    def test_behind_one_part(self):
        for wrong in ["q", "(", "=", "!=", ",", ".", ":", "not", "all", "some", "?", "q" * 41]:
            for text in ["p(a)", "not p(a)", "(p)", "a = f(b)", "all x. p(x)", "all x. x = x", "not not a != f(b)"]:
                if wrong in ("=", "!=") and text in ("p(a)", "not p(a)", "all x. p(x)"):
                    continue
                self.check(f"{text} {wrong}", len(text) + 2, "and, or, implies, iff or the end")
                self.check(f"({text} {wrong}", len(text) + 3, "and, or, implies, iff or )")
        self.check("p q", 3, "and, or, implies, iff or the end")
        self.check("p)", 2, "and, or, implies, iff or the end")
        self.check("(p))", 4, "and, or, implies, iff or the end")
        self.check("(p", None, "and, or, implies, iff or )")
        self.check("((p)", None, "and, or, implies, iff or )")
        self.check("(all x. p(x)", None, "and, or, implies, iff or )")
        self.check("all x. x = f (x) (", 18, "and, or, implies, iff or the end")
        self.check("all x. a = x(a)", 13, "and, or, implies, iff or the end")
        self.check("a = b = c", 7, "and, or, implies, iff or the end")
        self.check("(p) = a", 5, "and, or, implies, iff or the end")
        self.check("p(a)(b)", 5, "and, or, implies, iff or the end")

    def test_behind_parts_that_are_joined(self):
        others = ["q", ",", "(", "not", "!", ".", "all"]
        for wrong in ["or", "implies", "iff"] + others:
            self.check(f"p and q(a) {wrong}", 12, "and or the end")
            self.check(f"p and q and r(a) {wrong}", 18, "and or the end")
            self.check(f"(p and q(a) {wrong}", 13, "and or )")
        for wrong in ["and", "implies", "iff"] + others:
            self.check(f"p or q(a) {wrong}", 11, "or or the end")
            self.check(f"p or q or r(a) {wrong}", 16, "or or the end")
            self.check(f"all x. (p or q(a) {wrong}", 19, "or or )")
        for wrong in ["and", "or", "implies", "iff"] + others:
            self.check(f"p implies q(a) {wrong}", 16, "the end")
            self.check(f"p iff q(a) {wrong}", 12, "the end")
            self.check(f"(p implies q(a) {wrong}", 17, ")")
            self.check(f"(p iff q(a) {wrong}", 13, ")")
        self.check("p and q)", 8, "and or the end")
        self.check("p or q)", 7, "or or the end")
        self.check("p iff q)", 8, "the end")
        self.check("(p and q", None, "and or )")
        self.check("(p or q or r", None, "or or )")
        self.check("(p implies q", None, ")")
        self.check("(p iff q", None, ")")

    def test_a_quantified_formula_inside_of_parentheses_ends_at_them(self):
        self.check("(all x. p(x) q", 14, "and, or, implies, iff or )")
        self.check("(all x. p(x) and q or", 20, "and or )")
        self.check("all x. (p(x)) )", 15, "and, or, implies, iff or the end")
        self.check("(all x. p(x)) (", 15, "and, or, implies, iff or the end")
        self.check("(all x. p(x) iff q", None, ")")
        # The formula around the parentheses goes on with its own words.
        self.check("p and (q or r) or", 16, "and or the end")
        self.check("(p and (q or r) or", 17, "and or )")

    def test_the_line_and_the_column_are_those_of_the_token(self):
        self.assertEqual(fault_of(tokens("\tp  ?", 41), (41, 6)), (41, 5, "and, or, implies, iff or the end"))
        self.assertEqual(fault_of(tokens("p(a", 3), (3, 4)), (3, 4, ", or )"))
        self.assertEqual(fault_of(tokens("p and # x", 3), (3, 10)), (3, 10, "a formula"))

    def test_what_stands_behind_the_token_does_not_change_the_error(self):
        source = random.Random(42)
        words = ["p", "x", "a", "all", "some", "not", "and", "or", "implies", "iff", "(", ")", ",", ".", "=", "!=", "?"]
        faults = 0
        for _ in range(6000):
            items = tokens(" ".join(source.choices(words, k=source.randrange(1, 12))), 1)
            fault = fault_of(items, (5, 6))
            if fault is None or fault[:2] == (5, 6):
                continue
            faults += 1
            k = [item[3] for item in items].index(fault[1])
            more = tokens(" ".join(source.choices(words, k=4)), 2)
            self.assertEqual(fault_of(items[:k + 1], (5, 6)), fault)
            self.assertEqual(fault_of(items[:k + 1] + more, (5, 6)), fault)
            # The end does not fit either, unless it is what is expected.
            shorter = fault_of(items[:k], (5, 6))
            if fault[2].endswith("the end"):
                self.assertIsNone(shorter)
            else:
                self.assertEqual(shorter, (5, 6, fault[2]))
        self.assertGreater(faults, 3000)


class NestingTest(unittest.TestCase):
    def check(self, text, many):
        """Too much nesting, if many is True: then the fault is at the first token."""
        fault = fault_of(tokens(text, 3), (3, len(text) + 1))
        self.assertEqual(fault == (3, tokens(text, 3)[0][3], "less nesting"), many, (text, fault))

    def test_40_and_41_open_parentheses(self):
        for many in (39, 40, 41, 60):
            self.check(" " + "(" * many + "p" + ")" * many, many > 40)
            self.check("p(" + "f(" * (many - 1) + "a" + ")" * many, many > 40)
            self.check("(" * (many - 10) + "p(" + "f(" * 9 + "a" + ")" * many, many > 40)
            self.check("(" * many, many > 40)
        self.assertIsNone(fault_of(tokens("(" * 40 + "p" + ")" * 40, 1), (1, 1)))
        self.assertIsNone(fault_of(tokens("p(" + "f(" * 39 + "a" + ")" * 40, 1), (1, 1)))

    def test_parentheses_that_are_closed_do_not_count(self):
        self.check(" and ".join(["(p(a))"] * 20), False)
        self.check(" and ".join(["((p))"] * 20) + " and " + "(" * 39 + "p" + ")" * 39, False)

    def test_each_closing_parenthesis_closes_one(self):
        for many in (40, 41):
            self.check("(p) and " + "(" * many, many > 40)
            self.check("(" * 20 + "(p) and " + "(" * (many - 20), many > 40)
            self.check("(" * 20 + "((p)) and (p(a)) and " + "(" * (many - 20), many > 40)

    def test_a_closing_parenthesis_when_none_is_open_does_not_count(self):
        self.check(")" * 50 + "(" * 41, True)
        self.check(")" * 50 + "(" * 40, False)
        self.check("p ) ) ( " + "(" * 39, False)
        self.check("p ) ) ( " + "(" * 40, True)

    def test_60_and_61_words(self):
        for word in ("not", "all", "some"):
            self.check(f"{word} " * 60, False)
            self.check(f"{word} " * 61, True)
        self.check("not " * 20 + "all " * 20 + "some " * 21, True)
        self.check("not " * 20 + "all " * 20 + "some " * 20, False)
        self.check("not " * 60 + "p", False)
        self.check("not " * 61 + "p", True)
        self.assertIsNone(fault_of(tokens("not " * 60 + "p", 1), (1, 1)))
        self.assertIsNone(fault_of(tokens("all x. " * 49 + "p", 1), (1, 1)))
        self.check("(not p) and " * 30 + "(all x. p) ", False)
        self.check("and " * 61 + "iff " * 61, False)

    def test_200_and_201_tokens(self):
        self.check("p and " * 99 + "p", False)
        self.assertIsNone(fault_of(tokens("p and " * 99 + "p", 1), (1, 1)))
        self.check("not p" + " and p" * 99, False)
        self.assertIsNone(fault_of(tokens("not p" + " and p" * 99, 1), (1, 1)))
        self.check("p and " * 100 + "p", True)
        self.check("p " * 200, False)
        self.check("p " * 201, True)
        self.check("? " * 200, False)
        self.check("? " * 201, True)

    def test_this_is_checked_before_everything_else(self):
        self.check("? " + "(" * 41, True)
        self.check("p q " + "not " * 61, True)
        self.check("p q " + "x " * 200, True)

    def test_no_token(self):
        self.assertEqual(fault_of([], (4, 5)), (4, 5, "a formula"))


if __name__ == "__main__":
    unittest.main()
