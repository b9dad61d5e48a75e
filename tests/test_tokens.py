import unittest

from lastproof.formulas.tokens import tokens

LETTERS = "abcdefghijklmnopqrstuvwxyz"
WORD_CHARACTERS = LETTERS + LETTERS.upper() + "0123456789_"


def short(text):
    """The kinds and words of the tokens of a text."""
    return [(kind, word) for kind, word, _, _ in tokens(text, 1)]


class TokensTest(unittest.TestCase):
    def test_the_example_of_the_interface(self):
        self.assertEqual(tokens("p != f(x) # why", 3), [
            ("word", "p", 3, 1), ("sign", "!=", 3, 3), ("word", "f", 3, 6), ("sign", "(", 3, 7),
            ("word", "x", 3, 8), ("sign", ")", 3, 9),
        ])

    def test_lines_without_tokens(self):
        for text in ["", " ", "\t", " \t \t", "#", "# p", "  # p != q", "\t#", "##"]:
            self.assertEqual(tokens(text, 7), [], text)

    def test_the_line_is_the_one_that_is_passed(self):
        for line in (1, 2, 20000):
            self.assertEqual(tokens("p(", line), [("word", "p", line, 1), ("sign", "(", line, 2)])

    def test_every_character_of_words(self):
        for character in WORD_CHARACTERS:
            self.assertEqual(tokens(character, 1), [("word", character, 1, 1)])
        self.assertEqual(short("aZ_09"), [("word", "aZ_09")])
        self.assertEqual(short("all 12 _ 0x not_"), [("word", w) for w in ["all", "12", "_", "0x", "not_"]])

    def test_each_sign(self):
        for sign in ["(", ")", ",", ".", ":", "=", "!="]:
            self.assertEqual(tokens(sign, 1), [("sign", sign, 1, 1)])
        self.assertEqual(short("(),.:=!="), [("sign", s) for s in ["(", ")", ",", ".", ":", "=", "!="]])

    def test_a_single_exclamation_mark_is_bad(self):
        self.assertEqual(short("!"), [("bad", "!")])
        self.assertEqual(short("! ="), [("bad", "!"), ("sign", "=")])
        self.assertEqual(short("!!="), [("bad", "!"), ("sign", "!=")])
        self.assertEqual(short("!=="), [("sign", "!="), ("sign", "=")])
        self.assertEqual(short("=!"), [("sign", "="), ("bad", "!")])
        self.assertEqual(short("a!=b"), [("word", "a"), ("sign", "!="), ("word", "b")])
        self.assertEqual(short("!a=b"), [("bad", "!"), ("word", "a"), ("sign", "="), ("word", "b")])
        self.assertEqual(short("!#="), [("bad", "!")])

    def test_every_other_character_is_bad(self):
        for number in range(128):
            character = chr(number)
            if character not in WORD_CHARACTERS + "(),.:= \t\n#":
                self.assertEqual(tokens(character, 1), [("bad", character, 1, 1)], number)
        self.assertEqual(short("[]"), [("bad", "["), ("bad", "]")])
        self.assertEqual(short("a-b"), [("word", "a"), ("bad", "-"), ("word", "b")])

    def test_bad_characters_do_not_end_the_line(self):
        self.assertEqual(tokens("a & b", 2), [("word", "a", 2, 1), ("bad", "&", 2, 3), ("word", "b", 2, 5)])

    def test_spaces_and_tabs_separate(self):
        self.assertEqual(tokens("\ta  b\t\tc", 1), [("word", "a", 1, 2), ("word", "b", 1, 5), ("word", "c", 1, 8)])

    def test_signs_need_no_spaces(self):
        self.assertEqual(tokens("f(x,y)=z.", 1), [
            ("word", "f", 1, 1), ("sign", "(", 1, 2), ("word", "x", 1, 3), ("sign", ",", 1, 4), ("word", "y", 1, 5),
            ("sign", ")", 1, 6), ("sign", "=", 1, 7), ("word", "z", 1, 8), ("sign", ".", 1, 9),
        ])

    def test_remarks(self):
        self.assertEqual(short("p# q"), [("word", "p")])
        self.assertEqual(short("p # q # r"), [("word", "p")])
        self.assertEqual(short("p #! [ ="), [("word", "p")])

    def test_words_of_40_and_41_characters(self):
        for many, kind in [(39, "word"), (40, "word"), (41, "bad"), (42, "bad"), (300, "bad")]:
            word = ("ab_3" * 100)[:many]
            self.assertEqual(tokens(f" {word} x", 5), [(kind, word, 5, 2), ("word", "x", 5, many + 3)])
            self.assertEqual(tokens(word, 5), [(kind, word, 5, 1)])

    def test_the_list_is_new(self):
        tokens("p", 1).clear()
        self.assertEqual(len(tokens("p", 1)), 1)
        self.assertIs(type(tokens("p", 1)), list)
        self.assertIs(type(tokens("p", 1)[0]), tuple)
