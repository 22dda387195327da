import unittest
from copy import deepcopy
from random import Random

from poolhopes.errors import InvalidText, PoolhopesError
from poolhopes.texts import read_sheet, write_sheet
from tests.brute import inside_of
from tests.samples import POOL, chain_tree, deep, even_tree, junk, random_tree, twists

TREE = POOL[0]
# Twelve sides, so that 9 and 10, 1 and 11 can be mixed up.
TALL = chain_tree(12)
SHEET = (0, 2, 1, 4, 5, 1, 7, 8, 9, 10, 11)


class TextsTest(unittest.TestCase):
    def check_none(self, tree, value):
        before = deepcopy(value)
        with self.assertRaises(InvalidText) as caught:
            read_sheet(tree, value)
        self.assertIsInstance(caught.exception, PoolhopesError)
        self.assertIs(type(str(caught.exception)), str)
        self.assertEqual(value, before)

    def check_both_ways(self, tree, sheet, text):
        written = write_sheet(sheet)
        self.assertIs(type(written), str)
        self.assertEqual(written, text)
        found = read_sheet(tree, text)
        self.assertEqual(found, sheet)
        self.assertEqual([type(found)] + [type(side) for side in found], [tuple] + [int] * len(sheet))

    def test_examples(self):
        self.assertEqual(write_sheet((0, 1, 0)), "0 1 0")
        self.assertEqual(read_sheet(((0, 3), (1, 2)), "3 2 2"), (3, 2, 2))
        self.check_none(((0, 3), (1, 2)), "3 0 2")

    def test_sides_9_and_10(self):
        self.check_both_ways(TALL, SHEET, "0 2 1 4 5 1 7 8 9 10 11")
        self.check_both_ways(TALL, (1,) * 11, "1 1 1 1 1 1 1 1 1 1 1")
        self.check_both_ways(TALL, (0,) * 8 + (9, 10, 11), "0 0 0 0 0 0 0 0 9 10 11")
        self.check_none(TALL, "0 2 1 4 5 1 7 8 10 10 11")
        self.check_none(TALL, "0 2 1 4 5 1 7 8 9 11 11")
        self.check_none(TALL, "0 2 1 4 5 1 7 8 9 1 0 11")
        self.check_none(TALL, "0 2 1 4 5 1 7 8 9 1011")
        self.check_none(TALL, "0 2 1 4 5 1 7 8 9 01 11")

    def test_one_match(self):
        self.check_both_ways((0, 1), (0,), "0")
        self.check_both_ways((1, 0), (1,), "1")
        for text in ("2", "", " ", "0 ", " 0", "00", "01", "-0", "-1", "+0", "0 0", "0 1", "O", "0\n", "0.0", "0,"):
            self.check_none((0, 1), text)

    def test_all_sheets(self):
        inside = inside_of(TREE)
        for one in range(-1, 5):
            for other in range(-1, 5):
                for last in range(-1, 5):
                    text = f"{one} {other} {last}"
                    if one in inside[0] and other in inside[1] and last in inside[2]:
                        self.check_both_ways(TREE, (one, other, last), text)
                    else:
                        self.check_none(TREE, text)

    def test_blanks(self):
        for text in ("3 2 2 ", " 3 2 2", "  3 2 2", "3  2 2", "3 2  2", "3 2 2  ", "3 22", "32 2", "322", "3\t2 2",
                     "3 2\n2", "3\n2\n2", "3 2 2\n", "\n3 2 2", "3 2 2\t", "3\u00a02 2", "3\u20032 2", "3 2 2\r",
                     "", " ", "  ", "   ", "\n"):
            self.check_none(TREE, text)

    def test_leading_zeros_and_other_signs(self):
        for text in ("03 2 2", "3 02 2", "3 2 02", "3 2 002", "+3 2 2", "3 +2 2", "3 2 -2", "-0 2 2", "00 1 0",
                     "0 1 00", "3,2,2", "3, 2, 2", "3;2;2", "3_2_2", "3 2 2.", "3 2 2.0", "3.0 2 2", "(3, 2, 2)",
                     "3 2 2 x", "x 2 2", "3 two 2", "0x3 2 2", "3 2 2e0", "\u0663 2 2", "3 \u00b2 2", "\uff13 2 2",
                     "3 2 _2", "3 2 0_2", "'3' 2 2", "3 2 2\x00", "\ufeff3 2 2", "True 1 0", "None 2 2"):
            self.check_none(TREE, text)

    def test_other_numbers_of_sides(self):
        for text in ("3 2", "3", "3 2 2 2", "3 2 2 2 2", "3 2 2 0", "0 3 2 2"):
            self.check_none(TREE, text)
        self.check_none((0, 1), "3 2 2")
        self.check_none(TALL, "3 2 2")

    def test_other_values(self):
        for value in junk():
            if value != "0 1 0":
                self.check_none(TREE, value)
        for value in twists("3 2 2") + [(3, 2, 2), [3, 2, 2], ("3", "2", "2"), ["3 2 2"], ("3 2 2",), {"3 2 2": None},
                                        b"3 2 2", "3 2 2 " * 40, "3 " * 99, deep("3 2 2", 90, list), 322, True, None]:
            self.check_none(TREE, value)
        self.check_none(TREE, "3 2 2" * 10000)

    def test_random_sheets(self):
        source = Random(55)
        for many in range(2, 17):
            for tree in (random_tree(source, many), chain_tree(many), even_tree(list(range(many)))):
                sheet = tuple([source.choice(sides) for sides in inside_of(tree)])
                self.check_both_ways(tree, sheet, " ".join([str(side) for side in sheet]))

    def test_other_trees_of_the_same_sides(self):
        self.check_both_ways(((1, 3), (0, 2)), (3, 0, 2), "3 0 2")
        self.check_none(((1, 3), (0, 2)), "0 3 2")
        self.check_both_ways((0, (1, (2, 3))), (3, 1, 0), "3 1 0")
        self.check_none((((0, 1), 2), 3), "3 1 0")


if __name__ == "__main__":
    unittest.main()
