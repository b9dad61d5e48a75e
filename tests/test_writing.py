import unittest

from lastproof.texts.writing import clause_text, literal_text, symbol_text, term_text
from tests.samples import TRUTH, chain

BIG = 10 ** 17
NAMES = [(True, "p"), (False, "f"), (False, "p"), (True, "2_x"), (False, "a"), (True, "f")]
A = ((2, 4, 0), ())


def f(*arguments):
    return ((2, 1, 0), arguments)


def p(*arguments):
    return ((1, 0, 0), arguments)


class TermsTest(unittest.TestCase):
    def test_every_kind_of_symbol(self):
        rows = [
            ((0, 0, 0), "#"), ((1, 0, 0), "p"), ((1, 3, 0), "2_x"), ((2, 1, 0), "f"), ((2, 4, 0), "a"),
            ((3, 3, 0), "$3_0"), ((3, 0, 12), "$0_12"), ((4, 3, 0), "&3_0"), ((4, 10, 7), "&10_7"),
            ((5, 3, 0), "@3"), ((5, 0, 0), "@0"), ((3, BIG, BIG), f"${BIG}_{BIG}"),
        ]
        for symbol, text in rows:
            self.assertEqual(symbol_text(symbol, NAMES), text)
            self.assertEqual(term_text((symbol, ()), NAMES), text)
            self.assertEqual(term_text((symbol, (0, A)), NAMES), text + "(?0, a)")

    def test_a_predicate_and_a_function_of_the_same_name(self):
        self.assertEqual(symbol_text((1, 0, 0), NAMES), "p")
        self.assertEqual(symbol_text((2, 2, 0), NAMES), "p")
        self.assertEqual(term_text(p(((2, 2, 0), (0,))), NAMES), "p(p(?0))")

    def test_variables(self):
        for number in (0, 7, 12, BIG):
            self.assertEqual(term_text(number, NAMES), f"?{number}")

    def test_the_example_of_the_document(self):
        self.assertEqual(term_text(((2, 0, 0), (0, ((2, 1, 0), (A,)))), [(False, "f"), (False, "g")] + NAMES[2:]),
                         "f(?0, g(a))")

    def test_nested_terms(self):
        self.assertEqual(term_text(f(f(0, f(A)), 1, A), NAMES), "f(f(?0, f(a)), ?1, a)")
        self.assertEqual(term_text(chain(120, 5), [(False, "s")]), "s(" * 120 + "?5" + ")" * 120)

    def test_the_table_stays(self):
        names = list(NAMES)
        clause_text(((True, p(f(0)), TRUTH),), names)
        self.assertEqual(names, NAMES)


class LiteralsTest(unittest.TestCase):
    def test_atoms(self):
        self.assertEqual(literal_text((True, p(0), TRUTH), NAMES), "p(?0)")
        self.assertEqual(literal_text((False, p(0), TRUTH), NAMES), "not p(?0)")
        self.assertEqual(literal_text((True, TRUTH, TRUTH), NAMES), "#")
        self.assertEqual(literal_text((False, TRUTH, TRUTH), NAMES), "not #")
        self.assertEqual(literal_text((False, ((5, 2, 0), (A,)), TRUTH), NAMES), "not @2(a)")
        self.assertEqual(literal_text((True, ((4, 2, 1), ()), TRUTH), NAMES), "&2_1")

    def test_equations(self):
        self.assertEqual(literal_text((True, f(0), A), NAMES), "f(?0) = a")
        self.assertEqual(literal_text((False, 0, f(A)), NAMES), "?0 != f(a)")

    def test_truth_as_a_side(self):
        self.assertEqual(literal_text((True, TRUTH, p(0)), NAMES), "# = p(?0)")
        self.assertEqual(literal_text((False, TRUTH, p(0)), NAMES), "# != p(?0)")
        self.assertEqual(literal_text((True, A, TRUTH), NAMES), "a = #")
        self.assertEqual(literal_text((False, 0, TRUTH), NAMES), "?0 != #")
        self.assertEqual(literal_text((True, TRUTH, A), NAMES), "# = a")
        self.assertEqual(literal_text((True, ((3, 0, 0), ()), TRUTH), NAMES), "$0_0 = #")

    def test_other_literals_with_atoms(self):
        self.assertEqual(literal_text((True, p(0), p(1)), NAMES), "p(?0) = p(?1)")
        self.assertEqual(literal_text((False, p(0), p(1)), NAMES), "p(?0) != p(?1)")
        self.assertEqual(literal_text((True, p(p(0)), TRUTH), NAMES), "p(p(?0)) = #")
        self.assertEqual(literal_text((False, p(f(p())), TRUTH), NAMES), "p(f(p)) != #")
        self.assertEqual(literal_text((True, p(0), ((0, 0, 0), (0,))), NAMES), "p(?0) = #(?0)")


class ClausesTest(unittest.TestCase):
    def test_the_empty_clause(self):
        self.assertEqual(clause_text((), NAMES), "[]")

    def test_one_literal(self):
        self.assertEqual(clause_text(((False, p(), TRUTH),), NAMES), "not p")

    def test_several_literals(self):
        clause = ((True, p(0), TRUTH), (False, 0, A), (False, ((1, 3, 0), ()), TRUTH), (True, A, 1))
        self.assertEqual(clause_text(clause, NAMES), "p(?0) or ?0 != a or not 2_x or a = ?1")
