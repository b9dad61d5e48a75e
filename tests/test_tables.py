import random
import unittest

from lastproof.derivations.tables import read_world, world_text
from lastproof.errors import LastproofError, NoWorld
from lastproof.formulas.worlds import World

NAMES = [(True, "p"), (False, "f"), (False, "p"), (True, "long_Name_1")]
P, F, FP, LONG = (1, 0, 0), (2, 1, 0), (2, 2, 0), (1, 3, 0)
SKOLEM, PART, ANSWER = (3, 4, 5), (4, 6, 7), (5, 8, 0)


class TextsTest(unittest.TestCase):
    def check(self, size, tables, text):
        world = World(size, tables)
        self.assertEqual(world_text(world, NAMES), text)
        found = read_world(text, NAMES, list(tables))
        self.assertIs(type(found), World)
        self.assertEqual((found.size, list(found.tables.items())), (size, list(tables.items())))
        self.assertEqual((world.size, list(world.tables.items())), (size, list(tables.items())))

    def test_no_tables(self):
        self.check(1, {}, "size 1\n")
        self.check(8, {}, "size 8\n")

    def test_tables(self):
        self.check(2, {(P, 1): (1, 0), (F, 2): (0, 1, 1, 0), (F, 0): (1,)}, "size 2\np/1: 1 0\nf/2: 0 1 1 0\nf/0: 1\n")
        self.check(1, {(LONG, 0): (1,)}, "size 1\nlong_Name_1/0: 1\n")
        self.check(3, {(SKOLEM, 1): (2, 0, 1), (PART, 0): (0,), (ANSWER, 0): (1,), ((0, 0, 0), 1): (0, 0, 1)},
                   "size 3\n$4_5/1: 2 0 1\n&6_7/0: 0\n@8/0: 1\n#/1: 0 0 1\n")

    def test_a_predicate_and_a_function_of_the_same_name(self):
        self.check(2, {(P, 1): (1, 0), (FP, 1): (0, 1)}, "size 2\np/1: 1 0\np/1: 0 1\n")
        self.check(2, {(FP, 1): (1, 0), (P, 1): (0, 1)}, "size 2\np/1: 1 0\np/1: 0 1\n")

    def test_what_does_not_fit_is_read_all_the_same(self):
        self.check(0, {}, "size 0\n")
        self.check(0, {(P, 1): ()}, "size 0\np/1:\n")
        self.check(9, {(P, 0): (7,), (F, 1): (12, 34), (FP, 2): ()}, "size 9\np/0: 7\nf/1: 12 34\np/2:\n")
        n = 123456789012345678
        self.check(n, {(F, 0): (n, 0, n)}, f"size {n}\nf/0: {n} 0 {n}\n")

    def test_the_uses_are_copied(self):
        uses = [(P, 0)]
        found = read_world("size 1\np/0: 1\n", NAMES, uses)
        uses.clear()
        self.assertEqual(found.tables, {(P, 0): (1,)})

    def test_random_worlds(self):
        source = random.Random(105)
        for _ in range(200):
            uses = source.sample([(P, 0), (P, 1), (F, 2), (FP, 1), (SKOLEM, 3), (PART, 1), (ANSWER, 2)], source.randrange(5))
            tables = {use: tuple(source.randrange(12) for _ in range(source.randrange(6))) for use in uses}
            world = World(source.randrange(12), tables)
            text = world_text(world, NAMES)
            found = read_world(text, NAMES, uses)
            self.assertEqual((found.size, list(found.tables.items())), (world.size, list(world.tables.items())))
            self.assertEqual(world_text(found, NAMES), text)


class FaultsTest(unittest.TestCase):
    USES = [(P, 1), (F, 0)]
    TEXT = "size 2\np/1: 1 0\nf/0: 1\n"

    def refuse(self, text, uses=None):
        with self.assertRaises(NoWorld) as caught:
            read_world(text, NAMES, self.USES if uses is None else uses)
        self.assertIsInstance(caught.exception, LastproofError)

    def test_the_text_itself_is_read(self):
        self.assertEqual(read_world(self.TEXT, NAMES, self.USES).tables, {(P, 1): (1, 0), (F, 0): (1,)})

    def test_tables_that_are_missing_or_more_or_in_another_order(self):
        self.refuse("size 2\np/1: 1 0\n")
        self.refuse("size 2\n")
        self.refuse("size 2\nf/0: 1\n")
        self.refuse("size 2\nf/0: 1\np/1: 1 0\n")
        self.refuse(self.TEXT + "f/1: 0 0\n")
        self.refuse(self.TEXT + "f/0: 1\n")
        self.refuse("size 2\np/1: 1 0\np/1: 1 0\nf/0: 1\n")
        self.refuse(self.TEXT, self.USES[:1])
        self.refuse(self.TEXT, [])
        self.refuse(self.TEXT, self.USES[::-1])
        self.refuse(self.TEXT, [(P, 2), (F, 0)])
        self.refuse(self.TEXT, [(LONG, 1), (F, 0)])

    def test_the_size(self):
        for line in ["", "size", "size ", "size  2", "Size 2", " size 2", "size 02", "size -1", "size 2 ", "size two", "size 2.0",
                     "2", "size:2", "size\t2", "size 2 2", "size +2"]:
            self.refuse(self.TEXT.replace("size 2", line))

    def test_lines(self):
        for line in ["p/1:1 0", "p/1 : 1 0", "p/1: 1  0", "p/1:  1 0", "p/1: 1 0 ", " p/1: 1 0", "p/01: 1 0", "p/1: 01 0", "p/1: -1 0",
                     "p/1: 1,0", "p/1: 1 a", "p/1; 1 0", "p1: 1 0", "p: 1 0", "/1: 1 0", "q/1: 1 0", "p/1: 1\t0", "p/1 1 0",
                     "p/1: ", "p /1: 1 0", "p/1: +1 0", "", "P/1: 1 0"]:
            self.refuse(self.TEXT.replace("p/1: 1 0", line))

    def test_ends(self):
        self.refuse(self.TEXT[:-1])
        self.refuse(self.TEXT + "\n")
        self.refuse("\n" + self.TEXT)
        self.refuse(self.TEXT.replace("\n", "\n\n", 1))
        self.refuse("")
        self.refuse("", [])
        self.refuse("\n", [])
        self.refuse("size 1", [])

    def test_changed_characters(self):
        source = random.Random(1050)
        for k in range(len(self.TEXT)):
            for new in [self.TEXT[:k] + self.TEXT[k + 1:], self.TEXT[:k] + source.choice(" 0:/\nx") + self.TEXT[k:]]:
                try:
                    found = read_world(new, NAMES, self.USES)
                except NoWorld:
                    continue
                self.assertEqual(world_text(found, NAMES), new)
