import unittest
from random import Random

from poolhopes.trees import is_tree, matches, sides_of
from tests.brute import inside_of, parts_of
from tests.checks import check_bool, check_new
from tests.samples import chain_tree, deep, even_tree, junk, leaning, random_tree, twists


def renamed(tree, old, new):
    """Return a tree with another value in the place of a side."""
    if isinstance(tree, tuple):
        return tuple([renamed(part, old, new) for part in tree])
    return new if tree == old else tree


class IsTreeTest(unittest.TestCase):
    def test_examples(self):
        check_bool(self, True, is_tree, ((0, 3), (1, 2)))
        check_bool(self, False, is_tree, ((0, 2), 3))

    def test_sizes_from_2_to_16(self):
        source = Random(1)
        for many in range(2, 17):
            for tree in (chain_tree(many), leaning(many - 1, False), even_tree(list(range(many)))):
                check_bool(self, True, is_tree, tree)
            for _ in range(20):
                check_bool(self, True, is_tree, random_tree(source, many))

    def test_too_few_or_too_many_sides(self):
        check_bool(self, False, is_tree, 0)
        check_bool(self, False, is_tree, 1)
        check_bool(self, False, is_tree, (0,))
        check_bool(self, False, is_tree, ())
        for many in (17, 18, 32, 33, 64):
            for tree in (chain_tree(many), leaning(many - 1, False), even_tree(list(range(many)))):
                check_bool(self, False, is_tree, tree)

    def test_each_side_once(self):
        for tree in ((0, 0), (1, 1), (1, 2), (0, 2), (0, -1), ((0, 1), 1), ((0, 1), 3), ((0, 1), (2, 2)), (0, (0, 1)),
                     (0, 10 ** 29), ((0, 1), (2, 4)), ((3, 1), (2, 4))):
            check_bool(self, False, is_tree, tree)
        source = Random(2)
        for many in range(2, 17):
            tree = random_tree(source, many)
            for side in range(many):
                for other in (-1, many, (side + 1) % many):
                    check_bool(self, False, is_tree, renamed(tree, side, other))

    def test_bools_are_no_sides(self):
        for tree in ((0, True), (False, 1), (False, True), ((0, True), 2), (2, (1, False)), (True, 0)):
            check_bool(self, False, is_tree, tree)

    def test_other_forms(self):
        for tree in ([0, 1], ([0, 1], 2), (2, [0, 1]), (0, 1, 2), ((0, 1, 2),), ((0,), 1), (0, (1,)), ((), 0, 1),
                     (0, 1, None), (None, 0), (0, None), ("0", "1"), "01", {0: 1}, ((0, 1), {}), ((0, 1), "2"),
                     ((0, 1), ()), (((0, 1),), 2), ((0, 1),), [((0, 1), 2)]):
            check_bool(self, False, is_tree, tree)

    def test_any_other_value(self):
        for value in junk():
            check_bool(self, False, is_tree, value)
        for value in twists(((4, ((0, 3), (2, 1))))):
            check_bool(self, False, is_tree, value)
        for tree in (((0, 3), (1, 2)), chain_tree(16)):
            check_bool(self, False, is_tree, deep(tree, 80, tuple))
            check_bool(self, False, is_tree, (tree, deep(4, 80, tuple)))


class MatchesTest(unittest.TestCase):
    def test_examples(self):
        expected = [(("side", 0), ("side", 3)), (("side", 1), ("side", 2)), (("match", 0), ("match", 1))]
        self.assertEqual(matches(((0, 3), (1, 2))), expected)
        self.assertEqual(sides_of((0, (1, 2))), [(1, 2), (0, 1, 2)])

    def test_order_is_first_part_second_part_match(self):
        self.assertEqual(matches((0, (1, 2))), [(("side", 1), ("side", 2)), (("side", 0), ("match", 0))])
        self.assertEqual(matches(((2, 1), 0)), [(("side", 2), ("side", 1)), (("match", 0), ("side", 0))])
        self.assertEqual(matches(((4, (3, 0)), (2, 1))), [
            (("side", 3), ("side", 0)), (("side", 4), ("match", 0)), (("side", 2), ("side", 1)),
            (("match", 1), ("match", 2))])
        self.assertEqual(sides_of(((4, (3, 0)), (2, 1))), [(0, 3), (0, 3, 4), (1, 2), (0, 1, 2, 3, 4)])

    def test_two_sides(self):
        self.assertEqual(matches((1, 0)), [(("side", 1), ("side", 0))])
        self.assertEqual(sides_of((1, 0)), [(0, 1)])

    def test_random_trees(self):
        source = Random(3)
        for many in range(2, 17):
            for _ in range(10):
                tree = random_tree(source, many)
                self.assertEqual(matches(tree), parts_of(tree))
                self.assertEqual(sides_of(tree), inside_of(tree))

    def test_kinds(self):
        tree = ((4, (3, 0)), (2, 1))
        for found in (matches(tree), sides_of(tree)):
            self.assertIs(type(found), list)
            for row in found:
                self.assertIs(type(row), tuple)
        for row in matches(tree):
            for part in row:
                self.assertIs(type(part), tuple)

    def test_new_lists(self):
        check_new(self, matches, ((4, (3, 0)), (2, 1)))
        check_new(self, sides_of, ((4, (3, 0)), (2, 1)))


if __name__ == "__main__":
    unittest.main()
