import unittest
from copy import deepcopy
from random import Random

from poolhopes.pairs import find_bounds, find_greatest, greatest_lead, show_bounds
from tests.brute import endings_of, inside_of, keeps_bounds, leads_of, parts_of, points_of
from tests.checks import check_all_orders, check_bool, check_new
from tests.samples import (CHAIN_301, EVEN_300, LATE, POOL, deep, junk, random_pool, random_results, random_team,
                           random_tree, twists)

NAMED = {0: 0}
# The bounds of entrant 1 over entrant 2 that are least: the greatest leads match by match.
TIGHT = [{0: -1}, {1: 0, 2: 0}, {0: -1, 1: -1, 2: -1}]
ONE_TWO = (POOL, NAMED, (1,), (2,))


def lead_of(pool, ending, team, other):
    """Return the points of a team less those of another one."""
    points = points_of(pool, ending)
    return sum([points[one] for one in team]) - sum([points[one] for one in other])


class GreatestTest(unittest.TestCase):
    def check(self, pool, results, team, other):
        best = max([lead_of(pool, ending, team, other) for ending in endings_of(pool, results)])
        found = greatest_lead(pool, results, team, other)
        self.assertEqual(found, best)
        self.assertIs(type(found), int)
        ending = find_greatest(pool, results, team, other)
        self.assertIs(type(ending), tuple)
        self.assertIn(ending, endings_of(pool, results))
        self.assertEqual(lead_of(pool, ending, team, other), best)
        self.assertEqual(find_greatest(pool, results, team, other), ending)
        bounds = find_bounds(pool, results, team, other)
        self.assertTrue(keeps_bounds(pool, results, team, other, bounds, best))
        self.assertFalse(keeps_bounds(pool, results, team, other, bounds, best - 1))
        self.assertEqual(find_bounds(pool, results, team, other), bounds)
        check_bool(self, True, show_bounds, pool, results, team, other, bounds, best)
        check_bool(self, False, show_bounds, pool, results, team, other, bounds, best - 1)

    def test_examples(self):
        self.assertEqual(greatest_lead(POOL, {}, (0,), (1,)), 4)
        self.assertEqual(find_greatest(POOL, {}, (0,), (1,)), (0, 1, 0))
        self.assertEqual(greatest_lead(POOL, {0: 0}, (1,), (2,)), -1)
        self.check(POOL, {}, (0,), (1,))
        self.check(POOL, {0: 0}, (1,), (2,))

    def test_the_same_team(self):
        for team in ((0,), (0, 2), (0, 1, 2)):
            self.assertEqual(greatest_lead(POOL, {}, team, team), 0)
            self.check(POOL, {}, team, team)

    def test_teams_that_share_entrants(self):
        for team, other in (((0, 1), (1, 2)), ((0,), (0, 1, 2)), ((0, 1, 2), (1,)), ((1, 2), (2,))):
            self.check(POOL, {}, team, other)
            self.check(LATE, {0: 3}, team, other)

    def test_all_results(self):
        self.check(POOL, {0: 3, 1: 2, 2: 2}, (1,), (0,))
        self.assertEqual(greatest_lead(POOL, {0: 3, 1: 2, 2: 2}, (1,), (0,)), 6)
        self.assertEqual(find_greatest(POOL, {0: 3, 1: 2, 2: 2}, (1,), (0,)), (3, 2, 2))

    def test_random_pools(self):
        source = Random(21)
        for many in range(2, 11):
            for _ in range(20):
                tree = random_tree(source, many)
                entrants = source.randint(1, 5)
                pool = random_pool(source, tree, inside_of(tree), entrants, source.choice((2, 20)))
                results = random_results(source, parts_of(tree), source.choice((0, 0, 1, many // 2, many - 1)))
                self.check(pool, results, random_team(source, entrants), random_team(source, entrants))

    def test_large_pools(self):
        for pool in (EVEN_300, CHAIN_301):
            leads = leads_of(((pool, ((0, 1), ((2,),), 0)),), {})
            best = max([lead[0] for row in leads[-1].values() for lead in row])
            self.assertEqual(greatest_lead(pool, {}, (0, 1), (2,)), best)
            ending = find_greatest(pool, {}, (0, 1), (2,))
            self.assertIn(ending, endings_of(pool, {}))
            self.assertEqual(lead_of(pool, ending, (0, 1), (2,)), best)
            bounds = find_bounds(pool, {}, (0, 1), (2,))
            self.assertTrue(keeps_bounds(pool, {}, (0, 1), (2,), bounds, best))
            check_bool(self, True, show_bounds, pool, {}, (0, 1), (2,), bounds, best)
            check_bool(self, False, show_bounds, pool, {}, (0, 1), (2,), bounds, best - 1)

    def test_new_lists_and_orders_of_keys(self):
        for call in (find_bounds, find_greatest, greatest_lead):
            check_new(self, call, LATE, {0: 0, 1: 2}, (0, 1), (2,))
            check_all_orders(self, lambda results: call(LATE, results, (0, 3), (2,)), {0: 0, 1: 2, 2: 0})


class ShowBoundsTest(unittest.TestCase):
    def changed(self, at, side, bound):
        value = deepcopy(TIGHT)
        value[at][side] = bound
        return value

    def test_the_number_shown(self):
        for number, good in ((-2, False), (-1, True), (0, True), (1, True), (10 ** 29, True), (-10 ** 29, False)):
            check_bool(self, good, show_bounds, *ONE_TWO, TIGHT, number)
        for side in (0, 1, 2):
            value = self.changed(2, side, 5)
            check_bool(self, False, show_bounds, *ONE_TWO, value, 4)
            check_bool(self, True, show_bounds, *ONE_TWO, value, 5)

    def test_sums_are_not_greater(self):
        for at, side, bound, good in ((0, 0, -2, False), (0, 0, 0, False), (1, 1, -1, False), (1, 2, -1, False),
                                      (1, 1, 1, False), (1, 2, 1, False), (2, 0, -2, False), (2, 1, -2, False),
                                      (2, 2, -2, False), (2, 0, 7, True), (2, 1, 7, True), (2, 2, 7, True)):
            check_bool(self, good, show_bounds, *ONE_TWO, self.changed(at, side, bound), 7)
        loose = [{0: 1}, {1: 2, 2: 0}, {0: 3, 1: 3, 2: 1}]
        check_bool(self, True, show_bounds, *ONE_TWO, loose, 3)
        for side in (0, 1, 2):
            value = deepcopy(loose)
            value[2][side] -= 1
            check_bool(self, False, show_bounds, *ONE_TWO, value, 3)

    def test_bounds_of_another_order_of_keys(self):
        value = [{0: -1}, {2: 0, 1: 0}, {2: -1, 0: -1, 1: -1}]
        check_bool(self, True, show_bounds, *ONE_TWO, value, -1)

    def test_just_the_sides_that_can_win(self):
        for results, good in (({0: 0}, True), ({}, False), ({0: 3}, False), ({0: 0, 1: 1}, False),
                              ({0: 0, 1: 1, 2: 1}, False)):
            check_bool(self, good, show_bounds, POOL, results, (1,), (2,), TIGHT, 5)
        for at in range(3):
            for side in range(-1, 5):
                value = deepcopy(TIGHT)
                if side in value[at]:
                    del value[at][side]
                else:
                    value[at][side] = -9
                check_bool(self, False, show_bounds, *ONE_TWO, value, 5)
        for at in range(3):
            for key in (None, "0", "", (), (0,), (0, 1), 10 ** 29) + ((True,), (False,), ())[at]:
                value = deepcopy(TIGHT)
                value[at][key] = -9
                check_bool(self, False, show_bounds, *ONE_TWO, value, 5)
        check_bool(self, True, show_bounds, POOL, {0: 0, 1: 1, 2: 1}, (1,), (2,), [{0: -1}, {1: 0}, {1: -1}], -1)

    def test_bools_are_no_sides_and_no_integers(self):
        check_bool(self, False, show_bounds, *ONE_TWO, [{False: -1}, *TIGHT[1:]], 5)
        check_bool(self, False, show_bounds, *ONE_TWO, [TIGHT[0], {True: 0, 2: 0}, TIGHT[2]], 5)
        check_bool(self, False, show_bounds, *ONE_TWO, self.changed(1, 1, False), 5)
        check_bool(self, False, show_bounds, *ONE_TWO, self.changed(2, 0, True), 5)

    def test_other_forms(self):
        for value in (TIGHT[:2], TIGHT[1:], [*TIGHT, {}], tuple(TIGHT), [TIGHT], TIGHT[::-1], dict(enumerate(TIGHT)),
                      [{0: [-1]}, *TIGHT[1:]],
                      [{0: [(-1,)]}, {1: [(0,)], 2: [(0,)]}, {0: [(0,)], 1: [(0,)], 2: [(0,)]}]):
            check_bool(self, False, show_bounds, *ONE_TWO, value, 5)
        for value in junk() + twists(TIGHT):
            check_bool(self, False, show_bounds, *ONE_TWO, value, 5)
        for value in junk():
            for at in range(3):
                check_bool(self, False, show_bounds, *ONE_TWO, [*TIGHT[:at], value, *TIGHT[at + 1:]], 5)
            good = type(value) is int and value >= -1
            check_bool(self, good, show_bounds, *ONE_TWO, self.changed(2, 2, value), 10 ** 30)
        check_bool(self, False, show_bounds, *ONE_TWO, deep(TIGHT, 90, list), 5)
        check_bool(self, False, show_bounds, *ONE_TWO, self.changed(2, 0, deep(7, 90, tuple)), 5)

    def test_large_integers(self):
        huge = 10 ** 3990
        check_bool(self, True, show_bounds, *ONE_TWO, self.changed(2, 0, huge), huge)
        check_bool(self, False, show_bounds, *ONE_TWO, self.changed(2, 0, huge), huge - 1)
        check_bool(self, False, show_bounds, *ONE_TWO, self.changed(1, 1, huge), huge)
        check_bool(self, False, show_bounds, *ONE_TWO, self.changed(1, 1, -huge), huge)

    def test_random_changes(self):
        source = Random(22)
        kinds = {True: 0, False: 0}
        for many in range(2, 8):
            for _ in range(40):
                tree = random_tree(source, many)
                entrants = source.randint(1, 4)
                pool = random_pool(source, tree, inside_of(tree), entrants, 4)
                results = random_results(source, parts_of(tree), source.choice((0, 0, 1, many - 1)))
                team, other = random_team(source, entrants), random_team(source, entrants)
                value = find_bounds(pool, results, team, other)
                number = greatest_lead(pool, results, team, other) + source.choice((0, 0, 1, 5))
                for _ in range(3):
                    good = keeps_bounds(pool, results, team, other, value, number)
                    kinds[good] += 1
                    check_bool(self, good, show_bounds, pool, results, team, other, value, number)
                    at = source.randrange(len(value))
                    value[at][source.choice(sorted(value[at]))] += source.choice((-1, 1, 1, 2))
        self.assertGreater(min(kinds.values()), 100)


if __name__ == "__main__":
    unittest.main()
