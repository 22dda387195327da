import unittest
from itertools import product
from random import Random

from poolhopes.endings import count_endings, is_ending, scores
from tests.brute import endings_of, inside_of, parts_of, points_of
from tests.checks import check_all_orders, check_bool, check_new
from tests.samples import (CHAIN_300, EVEN_300, LATE, POOL, chain_tree, deep, even_tree, junk, random_pool,
                           random_results, random_tree, twists)


class IsEndingTest(unittest.TestCase):
    def test_examples(self):
        check_bool(self, True, is_ending, POOL, {0: 3}, (3, 2, 2))
        check_bool(self, False, is_ending, POOL, {0: 3}, (0, 2, 2))
        check_bool(self, False, is_ending, POOL, {}, (0, 2, 1))

    def test_all_tuples_of_small_pools(self):
        for results in ({}, {0: 3}, {0: 0}, {1: 2}, {1: 1, 0: 3}, {0: 3, 1: 1, 2: 3}, {0: 3, 1: 1, 2: 1}):
            endings = endings_of(POOL, results)
            for value in product(range(-1, 5), repeat=3):
                check_bool(self, value in endings, is_ending, POOL, results, value)
        for results in ({}, {1: 1}, {0: 0, 1: 2}, {0: 3, 1: 1, 2: 3}, {0: 3, 1: 1, 2: 3, 3: 4}):
            endings = endings_of(LATE, results)
            for value in product(range(5), repeat=4):
                check_bool(self, value in endings, is_ending, LATE, results, value)

    def test_random_endings_of_larger_pools(self):
        source = Random(6)
        for many in range(2, 13):
            tree = random_tree(source, many)
            pool = random_pool(source, tree, inside_of(tree), 2)
            results = random_results(source, parts_of(tree), source.randrange(many))
            endings = endings_of(pool, results)
            for ending in source.sample(endings, min(len(endings), 20)):
                check_bool(self, True, is_ending, pool, results, ending)
                for at in range(many - 1):
                    changed = (*ending[:at], (ending[at] + 1) % many, *ending[at + 1:])
                    check_bool(self, changed in endings, is_ending, pool, results, changed)

    def test_other_kinds_and_lengths(self):
        for value in ([3, 2, 2], (3, 2), (3, 2, 2, 2), (), (3, 2, 2, None), {0: 3, 1: 2, 2: 2}, "322", None, 3,
                      (3, 2, "2"), (3, 2, None), (3, 2, (2,)), ((3, 2, 2),), [(3, 2, 2)]):
            check_bool(self, False, is_ending, POOL, {}, value)
        check_bool(self, True, is_ending, POOL, {}, (0, 1, 1))
        for value in ((False, 1, 1), (0, True, 1), (0, 1, True), (0, True, True), (False, 1, False)):
            check_bool(self, False, is_ending, POOL, {}, value)
            check_bool(self, False, is_ending, POOL, {0: 0, 1: 1}, value)

    def test_any_other_value(self):
        for value in junk() + twists((0, 1, 1)) + twists((0, 1, 0)):
            check_bool(self, False, is_ending, POOL, {}, value)
            check_bool(self, False, is_ending, POOL, {0: 0, 1: 1, 2: 1}, value)
        check_bool(self, False, is_ending, POOL, {}, deep((0, 1, 1), 90, tuple))
        check_bool(self, False, is_ending, POOL, {}, (0, 1, deep(1, 90, tuple)))


class ScoresTest(unittest.TestCase):
    def test_examples(self):
        self.assertEqual(scores(POOL, (0, 1, 0)), (4, 0, 1))
        self.assertEqual(scores(POOL, (0, 2, 2)), (1, 5, 6))
        self.assertEqual(scores(POOL, (3, 2, 2)), (0, 6, 4))

    def test_bonus_is_for_the_weaker_of_the_two(self):
        # Side 1 is the stronger one against 2, the weaker one against 0; 3 is weaker against each.
        pool = (((0, 3), (1, 2)), (0, 0, 0), 9, ((0, 1, 1), (3, 2, 2), (3, 1, 3)))
        self.assertEqual(scores(pool, (0, 1, 1)), (9, 0, 0))
        self.assertEqual(scores(pool, (3, 1, 1)), (0, 9, 9))
        self.assertEqual(scores(pool, (3, 2, 2)), (0, 18, 9))
        self.assertEqual(scores(pool, (0, 2, 2)), (0, 18, 0))
        self.assertEqual(scores(pool, (3, 1, 3)), (0, 9, 18))
        self.assertEqual(scores(((1, 0), (5,), 3, ((0,), (1,)))[:4], (0,)), (5, 0))
        self.assertEqual(scores(((1, 0), (5,), 3, ((0,), (1,)))[:4], (1,)), (0, 8))

    def test_all_endings_of_random_pools(self):
        source = Random(7)
        for many in range(2, 9):
            for entrants in range(1, 6):
                tree = random_tree(source, many)
                pool = random_pool(source, tree, inside_of(tree), entrants)
                for ending in endings_of(pool, {}):
                    points = scores(pool, ending)
                    self.assertEqual(points, points_of(pool, ending))
                    self.assertIs(type(points), tuple)

    def test_arguments_stay_as_they_are(self):
        check_new(self, scores, POOL, (0, 1, 0))

    def test_sixteen_sides(self):
        source = Random(8)
        for ending in source.sample(endings_of(EVEN_300, {}), 300):
            self.assertEqual(scores(EVEN_300, ending), points_of(EVEN_300, ending))


class CountEndingsTest(unittest.TestCase):
    def test_examples(self):
        self.assertEqual(count_endings(POOL, {0: 3}), 4)

    def test_arguments_stay_as_they_are(self):
        check_new(self, count_endings, POOL, {0: 3, 1: 1})

    def test_no_and_some_and_all_results(self):
        self.assertEqual(count_endings(POOL, {}), 8)
        self.assertEqual(count_endings(POOL, {1: 1, 0: 3}), 2)
        self.assertEqual(count_endings(POOL, {2: 1, 1: 1, 0: 3}), 1)
        self.assertEqual(count_endings(((0, 1), (0,), 0, ((0,),)), {}), 2)
        self.assertEqual(count_endings(CHAIN_300, {}), 2 ** 12)
        self.assertEqual(count_endings(EVEN_300, {}), 2 ** 15)

    def test_random_pools(self):
        source = Random(9)
        for many in range(2, 17):
            for tree in (random_tree(source, many), chain_tree(many), even_tree(list(range(many)))):
                pool = random_pool(source, tree, inside_of(tree), 1)
                for named in range(max(0, many - 9), many):
                    results = random_results(source, parts_of(tree), named)
                    self.assertEqual(count_endings(pool, results), len(endings_of(pool, results)))
                    check_all_orders(self, lambda given: count_endings(pool, given), results)


if __name__ == "__main__":
    unittest.main()
