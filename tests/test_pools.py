import unittest
from itertools import product
from random import Random

from poolhopes.pools import are_results, is_pool
from tests.brute import inside_of, parts_of
from tests.checks import check_bool
from tests.samples import (LATE, OTHER, POOL, CHAIN_300, EVEN_300, chain_tree, deep, junk, random_pool, random_results,
                           random_tree, twists)


def expected_results(parts, value):
    """Return whether a dict from integers to integers is results."""
    for at, winner in value.items():
        if not 0 <= at < len(parts):
            return False
        for kind, number in parts[at]:
            if kind == "match" and number not in value:
                return False
        if winner not in [number if kind == "side" else value[number] for kind, number in parts[at]]:
            return False
    return True


class IsPoolTest(unittest.TestCase):
    def test_examples(self):
        check_bool(self, True, is_pool, POOL)
        check_bool(self, False, is_pool, POOL[:3])

    def test_good_ones(self):
        for pool in (OTHER, LATE, CHAIN_300, EVEN_300, ((0, 1), (0,), 0, ((0,),)), ((1, 0), (20,), 9, ((0,),) * 5)):
            check_bool(self, True, is_pool, pool)
        source = Random(4)
        for many in range(2, 17):
            tree = random_tree(source, many)
            for entrants in range(1, 6):
                check_bool(self, True, is_pool, random_pool(source, tree, inside_of(tree), entrants))

    def test_points_from_0_to_20(self):
        tree, _, bonus, sheets = POOL
        for number, good in ((-1, False), (0, True), (20, True), (21, False), (10 ** 29, False), (-10 ** 29, False),
                             (True, False), (False, False), (None, False), ("1", False), ((1,), False)):
            for at in range(3):
                points = [1, 1, 2]
                points[at] = number
                check_bool(self, good, is_pool, (tree, tuple(points), bonus, sheets))

    def test_one_number_of_points_for_each_match(self):
        tree, points, bonus, sheets = POOL
        for wrong in ((), (1,), (1, 1), (1, 1, 2, 2), [1, 1, 2], {0: 1, 1: 1, 2: 2}, "112", 4, None, ((1, 1, 2),)):
            check_bool(self, False, is_pool, (tree, wrong, bonus, sheets))

    def test_bonus_from_0_to_9(self):
        tree, points, _, sheets = POOL
        for bonus, good in ((-1, False), (0, True), (9, True), (10, False), (True, False), (False, False),
                            (None, False), ("1", False), ((1,), False), (10 ** 29, False), (-10 ** 29, False)):
            check_bool(self, good, is_pool, (tree, points, bonus, sheets))

    def test_one_to_five_sheets(self):
        tree, points, bonus, sheets = POOL
        for many in range(9):
            check_bool(self, 1 <= many <= 5, is_pool, (tree, points, bonus, sheets[:1] * many))
        for wrong in (list(sheets), sheets[0], None, 3, "030", dict(enumerate(sheets)), (sheets,), (sheets[0], ())):
            check_bool(self, False, is_pool, (tree, points, bonus, wrong))

    def test_each_name_is_in_its_match(self):
        tree, points, bonus, _ = POOL
        inside = inside_of(tree)
        for sheet in product(range(-1, 5), repeat=3):
            good = all(side in sides for side, sides in zip(sheet, inside))
            check_bool(self, good, is_pool, (tree, points, bonus, (sheet,)))
            check_bool(self, good, is_pool, (tree, points, bonus, ((0, 1, 0), sheet)))
        self.assertTrue(is_pool((tree, points, bonus, ((0, 1, 3),))), "names need not hang together")

    def test_names_of_other_kinds_and_lengths(self):
        tree, points, bonus, _ = POOL
        for sheet in ((0, True, 0), (False, 1, 0), (0, 1, False), (0, 1, True), (0, 1), (0, 1, 0, 0), (), [0, 1, 0],
                      (0, 1, None), ("0", "1", "0"), "010", (0, 1, (0,)), {0: 0, 1: 1, 2: 0}, None, 0):
            check_bool(self, False, is_pool, (tree, points, bonus, (sheet,)))
            check_bool(self, False, is_pool, (tree, points, bonus, ((3, 2, 2), sheet)))

    def test_tree_of_the_pool(self):
        for tree in (0, (0, 1, 2), [[0, 3], [1, 2]], ((0, 3), (1, 1)), ((0, 3), (True, 2)), ((0, 3), (4, 2)), None):
            check_bool(self, False, is_pool, (tree, *POOL[1:]))
        for many, good in ((16, True), (17, False)):
            pool = (chain_tree(many), (1,) * (many - 1), 0, ((0,) * (many - 1),))
            check_bool(self, good, is_pool, pool)
        check_bool(self, False, is_pool, (0, (), 0, ((),)))

    def test_other_lengths(self):
        for value in ((), POOL[:1], POOL[:2], POOL[1:], (*POOL, ()), (*POOL, None), (POOL,), POOL + POOL, list(POOL)):
            check_bool(self, False, is_pool, value)

    def test_any_other_value(self):
        for value in junk() + twists(POOL) + twists(LATE):
            check_bool(self, False, is_pool, value)
        for value in junk():
            for at in range(4):
                is_bonus = at == 2 and type(value) is int and 0 <= value <= 9
                check_bool(self, is_bonus, is_pool, (*POOL[:at], value, *POOL[at + 1:]))
        check_bool(self, False, is_pool, deep(POOL, 90, tuple))
        check_bool(self, False, is_pool, deep(POOL, 90, list))


class AreResultsTest(unittest.TestCase):
    def test_examples(self):
        check_bool(self, True, are_results, POOL, {0: 3})
        check_bool(self, False, are_results, POOL, {2: 0})
        check_bool(self, True, are_results, POOL, {})

    def test_all_dicts_of_a_small_pool(self):
        parts = parts_of(POOL[0])
        for named in product((None, 0, 1, 2, 3, 4, -1), repeat=4):
            value = {at - 1: side for at, side in enumerate(named) if side is not None}
            check_bool(self, expected_results(parts, value), are_results, POOL, value)

    def test_all_dicts_of_a_pool_with_a_late_side(self):
        parts = parts_of(LATE[0])
        good = 0
        for named in product((None, 0, 1, 2, 3, 4), repeat=4):
            value = {at: side for at, side in enumerate(named) if side is not None}
            expected = expected_results(parts, value)
            good += expected
            check_bool(self, expected, are_results, LATE, value)
        self.assertGreater(good, 20)

    def test_random_results_of_larger_pools_in_any_order(self):
        source = Random(5)
        for many in range(2, 17):
            tree = random_tree(source, many)
            pool = random_pool(source, tree, inside_of(tree), 2)
            parts = parts_of(tree)
            for named in range(many):
                results = random_results(source, parts, named)
                check_bool(self, True, are_results, pool, results)
                keys = sorted(results, reverse=True)
                check_bool(self, True, are_results, pool, {key: results[key] for key in keys})
                for key in keys:
                    wrong = {**results, key: (results[key] + 1) % many}
                    check_bool(self, expected_results(parts, wrong), are_results, pool, wrong)
                    less = {other: results[other] for other in keys if other != key}
                    check_bool(self, expected_results(parts, less), are_results, pool, less)

    def test_matches_that_are_none(self):
        for value in ({3: 0}, {-1: 0}, {-3: 0}, {10 ** 29: 0}, {0: 0, 3: 0}, {0: 0, 1: 1, 2: 0, 3: 0}):
            check_bool(self, False, are_results, POOL, value)

    def test_both_parts_known(self):
        for value in ({2: 0}, {0: 0, 2: 0}, {1: 1, 2: 1}, {0: 0, 2: 1}, {0: 3, 2: 0}):
            check_bool(self, False, are_results, POOL, value)
        check_bool(self, False, are_results, LATE, {3: 4})
        check_bool(self, False, are_results, LATE, {0: 0, 1: 1, 3: 4})
        check_bool(self, True, are_results, LATE, {3: 4, 2: 0, 1: 1, 0: 0})

    def test_other_kinds(self):
        for value in ({True: 1}, {False: 0}, {0: False}, {1: True}, {0: 0, True: 1}, {0: 0, 1: 1, 2: True},
                      {0: 0, 1: 1, 2: False}, {0: None}, {None: 0}, {"0": 0}, {0: "0"}, {(0,): 0}, {0: (0,)}, {0: [0]},
                      {0: {}}, {0: 0, None: 0}, {0: 0, "1": 1}, {0: 0, (): 1}, {0: 0, 1: None}, [0], [(0, 0)],
                      (0, 1, 0), [], (), None, 0, "", False):
            check_bool(self, False, are_results, POOL, value)

    def test_any_other_value(self):
        for value in junk():
            check_bool(self, value == {} and isinstance(value, dict), are_results, POOL, value)
            check_bool(self, type(value) is int and value == 0, are_results, POOL, {0: value})
        for value in twists({0: 0, 1: 1, 2: 0}):
            check_bool(self, False, are_results, POOL, value)
        check_bool(self, False, are_results, POOL, deep({0: 0}, 90, list))


if __name__ == "__main__":
    unittest.main()
