import random
import unittest

from lastproof.errors import NoClause, NoTerm
from lastproof.terms.literals import is_well_formed
from lastproof.terms.terms import is_atomic, is_individual
from lastproof.texts.reading import read_atom_or_term, read_clause, read_term
from lastproof.texts.writing import clause_text, term_text
from tests.samples import TRUTH, chain, random_term

BIG = 10 ** 17
NAMES = [(True, "p"), (False, "f"), (False, "p"), (True, "2_x"), (False, "a"), (True, "q"), (True, "or_"), (False, "12")]
A = ((2, 4, 0), ())
FUNCTIONS = [(2, 1, 0), (2, 2, 0), (2, 4, 0), (2, 7, 0), (3, 0, 12), (3, 10, 0), (3, BIG, BIG)]
ATOMS = [(0, 0, 0), (1, 0, 0), (1, 3, 0), (1, 5, 0), (1, 6, 0), (4, 0, 0), (4, 11, 20), (5, 0, 0), (5, BIG, 0)]

NO_TERMS = [
    "", " ", "?", "?00", "?01", "?-1", "?1a", "? 1", " ?1", "?1 ", "?0()", "?0(a)", "?x", "??1", "0", "1",
    "a()", "a(", "a)", "a (a)", "f(a", "f(a,", "f(a, ", "f(a,a)", "f(a,  a)", "f(a , a)", "f( a)", "f(a )",
    "f(a, )", "f(, a)", "f(a))", "f((a))", "(a)", "(", ")", ",", ", ", "f(a)(a)", "f(f(a)(a))", "f(a)a", "f(a) ", " a",
    "a ", "a, a", "a,", "b", "A", "F(a)", "f(b)", "f(b(a))", "aa", "a a", "f(a a)", "f()", "f(f())", "f(a, f())", "f(()",
    "$", "$3", "$_", "$3_", "$_3", "$3_0_0", "$03_0", "$3_00", "$3-0", "$ 3_0", "$3_ 0", "$3_0a", "$a_0", "$3_a", "$3_0()",
    "$-3_0", "3_0", "$3_+1", "$3_0 ", "a\n", "\na", "a\t", "f(a,\na)", "f(a,\ta)", "[]", "not a", "a = a", "a or a",
    "not", "or", "and", "all", "f(not)", "$$3_0", "f(?0,?1)", "f(?0, ?1", "?0, ?1", "\"a\"", "f[a]",
]


class TermsTest(unittest.TestCase):
    def check_no_term(self, reading, text):
        with self.assertRaises(NoTerm, msg=text) as caught:
            reading(text, NAMES)
        self.assertIs(type(caught.exception), NoTerm)

    def test_ordinary_terms(self):
        rows = [
            ("?0", 0), ("?12", 12), (f"?{BIG}", BIG), ("a", A), ("12", ((2, 7, 0), ())),
            ("f(?0, f(a))", ((2, 1, 0), (0, ((2, 1, 0), (A,))))), ("f", ((2, 1, 0), ())),
            ("$3_0", ((3, 3, 0), ())), ("$0_12(a, ?3)", ((3, 0, 12), (A, 3))),
            ("a(a)", ((2, 4, 0), (A,))),
        ]
        for text, term in rows:
            self.assertEqual(read_term(text, NAMES), term)
            self.assertEqual(read_atom_or_term(text, NAMES), term)

    def test_texts_of_no_terms(self):
        for text in NO_TERMS:
            self.check_no_term(read_term, text)
            self.check_no_term(read_atom_or_term, text)

    def test_read_term_never_returns_an_atom(self):
        for text in ["#", "#(a)", "q", "q(a)", "2_x", "or_(?0)", "&3_0", "&3_0(?0)", "@3", "@3(a)"]:
            self.check_no_term(read_term, text)
            self.assertTrue(is_atomic(read_atom_or_term(text, NAMES)))

    def test_atoms(self):
        rows = [
            ("#", TRUTH), ("#(a)", ((0, 0, 0), (A,))), ("q", ((1, 5, 0), ())), ("q(a, ?0)", ((1, 5, 0), (A, 0))),
            ("&3_0(?7)", ((4, 3, 0), (7,))), ("@3(f(a))", ((5, 3, 0), (((2, 1, 0), (A,)),))), ("@0", ((5, 0, 0), ())),
            ("2_x", ((1, 3, 0), ())), ("or_", ((1, 6, 0), ())), (f"&{BIG}_{BIG}", ((4, BIG, BIG), ())),
        ]
        for text, atom in rows:
            self.assertEqual(read_atom_or_term(text, NAMES), atom)

    def test_no_atoms_inside(self):
        for text in ["f(#)", "f(q)", "f(q(a))", "q(q)", "q(a, q(a))", "q(#)", "#(#)", "q(&3_0)", "q(@3)", "f(@3)",
                     "@3(f(@3))", "$3_0(&3_0)", "q(2_x)"]:
            self.check_no_term(read_term, text)
            self.check_no_term(read_atom_or_term, text)

    def test_wrong_texts_of_atoms(self):
        for text in ["q()", "q(", "q(a", "#()", "##", "# ", " #", "#a", "&3", "&_", "&3_", "&03_0", "&3_00", "&3_0_0",
                     "&", "@", "@ 3", "@03", "@3_0", "@3a", "@a", "@3()", "&3_0()", "@-1", "q(a)(a)", "q (a)", "Q",
                     "not q", "&a_0", "&3_a", "@", "?0(a)", "q(a),", "q, q", "q(a) or q", "-", "@3@", "q#"]:
            self.check_no_term(read_term, text)
            self.check_no_term(read_atom_or_term, text)

    def test_a_text_that_is_both_is_the_individual_term(self):
        for reading in (read_term, read_atom_or_term):
            self.assertEqual(reading("p", NAMES), ((2, 2, 0), ()))
            self.assertEqual(reading("p(a)", NAMES), ((2, 2, 0), (A,)))
            self.assertEqual(reading("p(p(?0))", NAMES), ((2, 2, 0), (((2, 2, 0), (0,)),)))

    def test_a_name_inside_an_atom_is_a_function(self):
        self.assertEqual(read_atom_or_term("q(p)", NAMES), ((1, 5, 0), (((2, 2, 0), ()),)))
        self.check_no_term(read_atom_or_term, "q(q)")

    def test_the_empty_table(self):
        self.assertEqual(read_term("$0_0(?1)", []), ((3, 0, 0), (1,)))
        self.assertEqual(read_atom_or_term("#", []), TRUTH)
        with self.assertRaises(NoTerm):
            read_term("a", [])

    def test_the_key_of_a_name_is_its_index(self):
        names = [(True, "a"), (True, "b"), (False, "b"), (False, "a")]
        self.assertEqual(read_term("a", names), ((2, 3, 0), ()))
        self.assertEqual(read_term("b", names), ((2, 2, 0), ()))
        self.assertEqual(read_clause("b or a", names),
                         ((True, ((1, 1, 0), ()), TRUTH), (True, ((1, 0, 0), ()), TRUTH)))

    def test_deep_terms(self):
        names = [(False, "f")]
        text = "f(" * 120 + "?0" + ")" * 120
        self.assertEqual(read_term(text, names), chain(120, 0))
        for wrong in ["f(" * 5000, "f(" * 120 + "?0" + ")" * 119, "f(" * 120 + "?0" + ")" * 121, "(" * 10000,
                      ")" * 10000, "f(?0, " * 3000]:
            with self.assertRaises(NoTerm):
                read_term(wrong, names)
            with self.assertRaises(NoTerm):
                read_atom_or_term(wrong, names)
            with self.assertRaises(NoClause):
                read_clause(wrong, names)

    def test_reading_gives_back_what_writing_wrote(self):
        source = random.Random(20)
        for _ in range(300):
            term = random_term(source, FUNCTIONS, 20, 3)
            self.assertEqual(read_term(term_text(term, NAMES), NAMES), term)
            self.assertEqual(read_atom_or_term(term_text(term, NAMES), NAMES), term)

    def test_the_table_stays(self):
        names = list(NAMES)
        read_atom_or_term("q(a)", names)
        read_clause("q(a) or a = f(a)", names)
        self.assertEqual(names, NAMES)
        for reading in (read_term, read_atom_or_term, read_clause):
            with self.assertRaises((NoTerm, NoClause)):
                reading("unknown(a)", names)
            self.assertEqual(names, NAMES)


def random_literal(source):
    positive = source.random() < 0.5
    if source.random() < 0.5:
        return (positive, random_term(source, FUNCTIONS, 5, 2), random_term(source, FUNCTIONS, 5, 2))
    arguments = [random_term(source, FUNCTIONS, 5, 1) for _ in range(source.randrange(3))]
    return (positive, (source.choice(ATOMS), tuple(arguments)), TRUTH)


class ClausesTest(unittest.TestCase):
    def check_no_clause(self, text):
        with self.assertRaises(NoClause, msg=text) as caught:
            read_clause(text, NAMES)
        self.assertIs(type(caught.exception), NoClause)

    def test_the_example_of_the_interface(self):
        self.assertEqual(
            read_clause("p(?0) or ?0 != a", [(True, "p"), (False, "a")]),
            ((True, ((1, 0, 0), (0,)), ((0, 0, 0), ())), (False, 0, ((2, 1, 0), ()))),
        )

    def test_ordinary_clauses(self):
        q = (1, 5, 0)
        rows = [
            ("[]", ()), ("q", ((True, (q, ()), TRUTH),)), ("not q(a)", ((False, (q, (A,)), TRUTH),)),
            ("#", ((True, TRUTH, TRUTH),)), ("not #", ((False, TRUTH, TRUTH),)), ("?0 = ?1", ((True, 0, 1),)),
            ("a != f(a)", ((False, A, ((2, 1, 0), (A,))),)),
            ("not @3(?0) or q or ?0 = a", ((False, ((5, 3, 0), (0,)), TRUTH), (True, (q, ()), TRUTH), (True, 0, A))),
            ("q or q", ((True, (q, ()), TRUTH),) * 2), ("or_ or or_", ((True, ((1, 6, 0), ()), TRUTH),) * 2),
            ("#(a)", ((True, ((0, 0, 0), (A,)), TRUTH),)),
        ]
        for text, clause in rows:
            self.assertEqual(read_clause(text, NAMES), clause)
            self.assertIs(type(read_clause(text, NAMES)), tuple)

    def test_a_name_that_is_both(self):
        predicate, function = (1, 0, 0), (2, 2, 0)
        self.assertEqual(read_clause("p", NAMES), ((True, (predicate, ()), TRUTH),))
        self.assertEqual(read_clause("not p(p)", NAMES), ((False, (predicate, ((function, ()),)), TRUTH),))
        self.assertEqual(read_clause("p = p(p)", NAMES), ((True, (function, ()), (function, ((function, ()),))),))

    def test_texts_of_no_clauses(self):
        for text in [
            "", " ", "[ ]", "[] ", " []", "[] or q", "q or []", "q or ", " or q", " or ", "q or", "or", "q or  q", "q  or q",
            "q q", "q and q", "not", "not ", "not  q", "not not q", "notq", "not(q)", "Not q", "not a", "a", "f(a)", "?0",
            "not ?0", "b", "not b", "$3_0", "a = q", "q = a", "q = q", "q(a) = #", "a = #", "# = a", "# = #", "# != #",
            "a=a", "a = a = a", "a = a != a", "a != a = a", "a == a", "a ! = a", "a !=a", "a = ", " = a", "=", "!=", " = ",
            "a  = a", "a =  a", "not a = a", "not a != a", "a = not a", "a or q", "q or a", "q(b)", "q()", "q(a", "q(a))",
            "q\n", "q or\nq", "q, q", "p(q)", "f(a) = f(b)", "?00 = a", "a = ?", "&03_0", "q | q", "q OR q", "[", "]", "[]]",
            "q or b", "q or q(a,a)", "q or q or b", "b or q",
        ]:
            self.check_no_clause(text)

    def test_texts_of_terms_are_no_clauses(self):
        for text in NO_TERMS:
            if text not in ("[]",):
                self.check_no_clause(f"q or {text} = b")
                self.check_no_clause(f"q or b != {text}")

    def test_each_side_of_an_equation_must_be_a_term(self):
        for text in NO_TERMS:
            if " = " not in text and " or " not in text:
                self.check_no_clause(f"{text} = a")
                self.check_no_clause(f"a != {text}")

    def test_reading_gives_back_what_writing_wrote(self):
        source = random.Random(21)
        for _ in range(400):
            clause = tuple([random_literal(source) for _ in range(source.randrange(5))])
            self.assertEqual(read_clause(clause_text(clause, NAMES), NAMES), clause)

    def test_what_is_read_is_written_as_the_same_text(self):
        source = random.Random(22)
        changed_and_read = 0
        for _ in range(4000):
            clause = tuple([random_literal(source) for _ in range(source.randrange(1, 3))])
            text = clause_text(clause, NAMES)
            k = source.randrange(len(text) + 1)
            wrong = text[:k] + source.choice(["", "", " ", "0", ",", "(", ")", "a", "=", "?", "_"]) + text[k + 1:]
            try:
                result = read_clause(wrong, NAMES)
            except NoClause:
                continue
            changed_and_read += wrong != text
            self.assertEqual(clause_text(result, NAMES), wrong)
            self.assertTrue(is_well_formed(result))
        self.assertGreater(changed_and_read, 50)

    def test_what_is_read_as_a_term_is_written_as_the_same_text(self):
        source = random.Random(23)
        for _ in range(4000):
            text = term_text((source.choice(FUNCTIONS + ATOMS), (random_term(source, FUNCTIONS, 5, 2),)), NAMES)
            k = source.randrange(len(text) + 1)
            wrong = text[:k] + source.choice(["", "", " ", "0", ",", "(", ")", "a", "q", "?", "_"]) + text[k + 1:]
            try:
                result = read_atom_or_term(wrong, NAMES)
            except NoTerm:
                continue
            self.assertEqual(term_text(result, NAMES), wrong)
            self.assertTrue(is_individual(result) or is_atomic(result))
