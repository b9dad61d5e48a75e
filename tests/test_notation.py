import random
import unittest

from lastproof.derivations.notation import derivation_text, read_derivation
from lastproof.derivations.steps import check, refutes
from lastproof.errors import LastproofError, NoDerivation
from tests.samples import INDIVIDUAL_SYMBOLS, random_term

NAMES = [(True, "p"), (False, "a"), (False, "f"), (False, "p")]
A = ((2, 1, 0), ())
F = (2, 2, 0)

EXAMPLE = """lastproof derivation 1
given|0|0
given|1|0
superpose|1||0|0||0|0=a|0|0
clean|2
"""


def lines(*texts):
    return "".join(text + "\n" for text in ("lastproof derivation 1",) + texts)


class ExampleTest(unittest.TestCase):
    def test_the_example_of_the_document(self):
        names = [(True, "p"), (False, "a")]
        steps = read_derivation(EXAMPLE, names)
        self.assertEqual(steps, [("given", 0, 0), ("given", 1, 0), ("superpose", 1, {}, 0, 0, (), 0, {0: A}, 0, 0), ("clean", 2)])
        self.assertEqual(derivation_text(steps, names), EXAMPLE)
        truth = ((0, 0, 0), ())
        p_of = [(1, 0, 0), (0,)]
        given = {0: [((True, tuple(p_of), truth),)], 1: [((False, ((1, 0, 0), (A,)), truth),)]}
        self.assertEqual(check(given, steps), [given[0][0], given[1][0], ((False, truth, truth),), ()])
        self.assertTrue(refutes(given, steps))


class NotationTest(unittest.TestCase):
    def check(self, steps, *texts):
        text = lines(*texts)
        before = repr(steps)
        self.assertEqual(derivation_text(steps, NAMES), text)
        self.assertEqual(repr(read_derivation(text, NAMES)), before)
        self.assertEqual(repr(steps), before)

    def test_no_steps(self):
        self.check([])
        self.assertEqual(derivation_text([], []), "lastproof derivation 1\n")

    def test_steps_of_all_kinds(self):
        self.check([("given", 3, 12)], "given|3|12")
        self.check([("superpose", 5, {1: 0}, 2, 1, (0, 11), 4, {0: A, 3: (F, (2,))}, 6, 0)],
                   "superpose|5|1=?0|2|1|0.11|4|0=a;3=f(?2)|6|0")
        self.check([("resolve", 1, {0: (F, (A, 0))}, 2)], "resolve|1|0=f(a, ?0)|2")
        self.check([("factor", 7, {}, 0, 1, 3, 0)], "factor|7||0|1|3|0")
        self.check([("instance", 0, {0: 1, 1: 0})], "instance|0|0=?1;1=?0")
        self.check([("clean", 9)], "clean|9")
        self.check([("given", 0, 0), ("clean", 0), ("clean", 1)], "given|0|0", "clean|0", "clean|1")

    def test_places(self):
        for place, text in [((), ""), ((0,), "0"), ((10,), "10"), ((0, 0, 0), "0.0.0"), ((3, 99, 1), "3.99.1")]:
            self.check([("superpose", 0, {}, 0, 0, place, 1, {}, 0, 1)], f"superpose|0||0|0|{text}|1||0|1")

    def test_substitutions(self):
        for r, text in [({}, ""), ({0: 0}, "0=?0"), ({7: A}, "7=a"), ({2: A, 0: 2, 1: 2}, "2=a;0=?2;1=?2"),
                        ({0: ((3, 4, 5), (A,))}, "0=$4_5(a)"), ({0: (F, (1, (F, (2,))))}, "0=f(?1, f(?2))"),
                        ({0: ((2, 3, 0), ())}, "0=p")]:
            self.check([("instance", 0, r)], f"instance|0|{text}")

    def test_the_order_of_the_dict_stays(self):
        read = read_derivation(lines("instance|0|3=a;1=a;2=a"), NAMES)
        self.assertEqual(list(read[0][2]), [3, 1, 2])

    def test_numbers_of_many_digits(self):
        n = 123456789012345678
        self.check([("given", n, n), ("instance", n, {n: n}), ("superpose", n, {}, n, 0, (n, n), n, {}, n, 1)],
                   f"given|{n}|{n}", f"instance|{n}|{n}=?{n}", f"superpose|{n}||{n}|0|{n}.{n}|{n}||{n}|1")

    def test_steps_need_not_hold(self):
        self.check([("clean", 5), ("resolve", 9, {0: 0}, 3), ("factor", 0, {}, 1, 1, 1, 1)],
                   "clean|5", "resolve|9|0=?0|3", "factor|0||1|1|1|1")

    def test_random_steps(self):
        source = random.Random(93)
        names = [(False, f"f{k}") for k in range(10)]

        def number():
            return source.choice([0, 1, 7, 10, 105])

        def substitution():
            return {number(): random_term(source, INDIVIDUAL_SYMBOLS, 20, 2) for _ in range(source.randrange(4))}

        for _ in range(300):
            steps = [source.choice([
                ("given", number(), number()),
                ("superpose", number(), substitution(), number(), source.randrange(2),
                 tuple(number() for _ in range(source.randrange(4))), number(), substitution(), number(), source.randrange(2)),
                ("resolve", number(), substitution(), number()),
                ("factor", number(), substitution(), number(), source.randrange(2), number(), source.randrange(2)),
                ("instance", number(), substitution()), ("clean", number()),
            ]) for _ in range(source.randrange(6))]
            text = derivation_text(steps, names)
            self.assertEqual(read_derivation(text, names), steps)
            self.assertEqual(derivation_text(read_derivation(text, names), names), text)


class FaultsTest(unittest.TestCase):
    def refuse(self, text, names=NAMES):
        with self.assertRaises(NoDerivation) as caught:
            read_derivation(text, names)
        self.assertIsInstance(caught.exception, LastproofError)

    def test_the_first_line(self):
        for text in ["", "\n", "lastproof derivation 1", "lastproof derivation 2\n", "lastproof derivation 1 \n",
                     " lastproof derivation 1\n", "lastproof  derivation 1\n", "Lastproof derivation 1\n",
                     "lastproof derivation 01\n", "given|0|0\n", "\nlastproof derivation 1\n"]:
            self.refuse(text)

    def test_the_ends_of_lines(self):
        self.refuse(EXAMPLE[:-1])
        self.refuse(EXAMPLE + "\n")
        self.refuse(EXAMPLE + " ")
        self.refuse(EXAMPLE.replace("given|1", "\ngiven|1"))
        self.refuse(EXAMPLE.replace("\n", " \n"))
        self.refuse(EXAMPLE.replace("\n", "\t\n", 2))

    def test_words(self):
        for line in ["", "give|0|0", "given", "Given|0|0", "given |0|0", " given|0|0", "superposed|0|0", "cleaned|0", "0|0", "|",
                     "rewritten|0", "lastproof derivation 1"]:
            self.refuse(lines(line))

    def test_the_number_of_parts(self):
        for line in ["given|0", "given|0|0|0", "given|0|0|", "clean", "clean|0|0", "clean|", "instance|0", "instance|0||",
                     "resolve|0|0", "resolve|0||0|0", "factor|0||0|0|0", "factor|0||0|0|0|0|0", "superpose|0||0|0||0||0",
                     "superpose|0||0|0||0||0|0|0", "superpose|0||0|0|0||0|0"]:
            self.refuse(lines(line))

    def test_numbers(self):
        for number in ["00", "01", "-1", "+1", " 1", "1 ", "a", "1.0", "", "?0", "1_0"]:
            self.refuse(lines(f"clean|{number}"))
            self.refuse(lines(f"given|0|{number}"))
            self.refuse(lines(f"given|{number}|0"))
            self.refuse(lines(f"resolve|0||{number}"))
            self.refuse(lines(f"instance|{number}|"))
            self.refuse(lines(f"superpose|0||{number}|0||0||0|0"))
            self.refuse(lines(f"superpose|0||0|0||{number}||0|0"))

    def test_sides(self):
        for side in ["2", "00", "01", "", "-1", "a", "10"]:
            self.refuse(lines(f"superpose|0||0|{side}||0||0|0"))
            self.refuse(lines(f"superpose|0||0|0||0||0|{side}"))
            self.refuse(lines(f"factor|0||0|{side}|1|0"))
            self.refuse(lines(f"factor|0||0|0|1|{side}"))
        # Indexes may be greater.
        self.assertEqual(read_derivation(lines("factor|0||2|0|3|1"), NAMES), [("factor", 0, {}, 2, 0, 3, 1)])

    def test_places(self):
        for place in [".", "0.", ".0", "0..0", "00", "0.01", "a", "-1", "0,1", "0.1.", " ", "()"]:
            self.refuse(lines(f"superpose|0||0|0|{place}|0||0|0"))

    def test_substitutions(self):
        for r in ["0", "=", "0=", "=a", "0=a;", ";0=a", "0=a;;1=a", ";", "00=a", "01=a", "-1=a", "?0=a", "x=a", "0==a",
                  "0 =a", "0= a", "0=a ", "0=a; 1=a", "0=a,1=a", "0=?00", "0=f(a,a)", "0=f(a", "0=f()", "0=?"]:
            self.refuse(lines(f"instance|0|{r}"))
            self.refuse(lines(f"resolve|0|{r}|0"))
            self.refuse(lines(f"superpose|0|{r}|0|0||0||0|0"))
            self.refuse(lines(f"superpose|0||0|0||0|{r}|0|0"))
            self.refuse(lines(f"factor|0|{r}|0|0|1|0"))

    def test_a_variable_twice_as_a_key(self):
        self.refuse(lines("instance|0|0=a;0=a"))
        self.refuse(lines("instance|0|0=a;1=a;0=?1"))
        self.refuse(lines("superpose|0|2=a;2=a|0|0||0||0|0"))
        # In two substitutions of a step it may stand in both.
        self.assertEqual(len(read_derivation(lines("superpose|0|2=a|0|0||0|2=a|0|0"), NAMES)), 1)

    def test_unknown_symbols_and_terms_that_are_not_individual(self):
        for term in ["b", "q", "f(b)", "#", "&0_0", "@0", "f(&0_0)", "f(#)", "$0", "$0_", "$00_0", "$0_01", "p = a", "not p"]:
            self.refuse(lines(f"instance|0|0={term}"))
        self.assertEqual(read_derivation(lines("instance|0|0=p"), NAMES), [("instance", 0, {0: ((2, 3, 0), ())})])
        self.refuse(lines("instance|0|0=p"), NAMES[:3])

    def test_texts_with_one_character_more_less_or_changed(self):
        texts = [EXAMPLE, lines("superpose|12|1=?0|2|1|0.11|4|0=a;3=f(?2, a)|6|0", "factor|7||0|1|3|0", "resolve|1|0=a|2")]
        source = random.Random(94)
        for text in texts:
            for k in range(len(text)):
                for new in [text[:k] + text[k + 1:], text[:k] + source.choice("|;=.0 a\n") + text[k:],
                            text[:k] + source.choice("|;=.0 a\n") + text[k + 1:]]:
                    self.check_exact(new)

    def check_exact(self, text):
        """The text is read exactly if it is the text of what is read."""
        try:
            steps = read_derivation(text, NAMES)
        except NoDerivation:
            return
        self.assertEqual(derivation_text(steps, NAMES), text)
