import unittest
from random import Random

from poolhopes.errors import TooMany
from poolhopes.places import best_place, hopeful, worst_place
from tests.brute import counts_of, endings_of, inside_of, parts_of, place_of, points_of, rows_of
from tests.checks import check_all_orders, check_new
from tests.samples import (CHAIN_300, CHAIN_301, EVEN_300, EVEN_2001, LATE, POOL, WORST_300, WORST_301, random_pool,
                           random_results, random_tree)


def places_by_leads(pool, entrant):
    """Return all places of an entrant over all endings of a large pool."""
    rivals = tuple([(other,) for other in range(len(pool[3])) if other != entrant])
    leads = counts_of(((pool, ((entrant,), rivals, 0)),), {})[-1]
    return {1 + len([1 for number in lead if number < 0]) for row in leads.values() for lead in row}


def moved(pool, at):
    """Return a pool with the first sheet put behind so many others."""
    tree, points, bonus, sheets = pool
    return (tree, points, bonus, (*sheets[1:at + 1], sheets[0], *sheets[at + 1:]))


class PlacesTest(unittest.TestCase):
    def check_told(self, pool, results, entrant, told, place):
        self.assertIs(type(told), tuple)
        found, ending = told
        self.assertIs(type(found), int)
        self.assertEqual(found, place)
        self.assertIs(type(ending), tuple)
        self.assertIn(ending, endings_of(pool, results))
        self.assertEqual(place_of(points_of(pool, ending), entrant), place)

    def check(self, pool, results):
        rows = [row for _, row in rows_of(pool, results)]
        first = []
        for entrant in range(len(pool[3])):
            places = [place_of(row, entrant) for row in rows]
            self.check_told(pool, results, entrant, best_place(pool, results, entrant), min(places))
            self.check_told(pool, results, entrant, worst_place(pool, results, entrant), max(places))
            first.extend([entrant] if min(places) == 1 else [])
            self.assertEqual(best_place(pool, results, entrant), best_place(pool, dict(results), entrant))
            self.assertEqual(worst_place(pool, results, entrant), worst_place(pool, dict(results), entrant))
        found = hopeful(pool, results)
        self.assertIs(type(found), list)
        self.assertEqual(found, first)

    def test_examples(self):
        self.assertEqual(best_place(POOL, {0: 0}, 1)[0], 2)
        self.assertEqual(worst_place(POOL, {0: 0}, 0)[0], 3)
        self.assertEqual(hopeful(POOL, {0: 0}), [0, 2])
        self.assertEqual(hopeful(POOL, {}), [0, 1, 2])
        self.check(POOL, {0: 0})
        self.check(POOL, {})

    def test_one_entrant_alone(self):
        for results in ({}, {0: 3}, {0: 3, 1: 2, 2: 2}):
            self.check((*POOL[:3], POOL[3][:1]), results)

    def test_equal_sheets_share_their_place(self):
        sheet, other = POOL[3][:2]
        for sheets in ((sheet, sheet), (sheet,) * 5, (other, sheet, sheet), (sheet, other, other, other),
                       (sheet, other, sheet, other, sheet)):
            self.check((*POOL[:3], sheets), {})
            self.check((*POOL[:3], sheets), {0: 3})
        # Both behind two equal ones in front, the next place is the third.
        pool = ((0, 1), (1,), 0, ((0,), (0,), (1,), (1,)))
        self.assertEqual(worst_place(pool, {}, 2), (3, (0,)))
        self.assertEqual(best_place(pool, {}, 2), (1, (1,)))
        self.assertEqual(hopeful(pool, {0: 0}), [0, 1])

    def test_no_points_at_all(self):
        for entrants in range(1, 6):
            pool = (POOL[0], (0, 0, 0), 0, (POOL[3] * 2)[:entrants])
            self.assertEqual(hopeful(pool, {}), list(range(entrants)))
            for entrant in range(entrants):
                self.check_told(pool, {}, entrant, worst_place(pool, {}, entrant), 1)

    def test_all_results(self):
        results = {0: 3, 1: 2, 2: 2}
        self.assertEqual([best_place(POOL, results, entrant) for entrant in range(3)],
                         [(3, (3, 2, 2)), (1, (3, 2, 2)), (2, (3, 2, 2))])
        self.assertEqual([worst_place(POOL, results, entrant) for entrant in range(3)],
                         [(3, (3, 2, 2)), (1, (3, 2, 2)), (2, (3, 2, 2))])
        self.assertEqual(hopeful(POOL, results), [1])

    def test_the_same_results_with_one_more(self):
        results = {}
        for at, side in ((0, 0), (1, 2), (2, 0)):
            self.check(POOL, results)
            results[at] = side
            self.check(POOL, results)
        del results[2]
        self.check(POOL, results)

    def test_random_pools(self):
        source = Random(31)
        for many in range(2, 10):
            for _ in range(16):
                tree = random_tree(source, many)
                pool = random_pool(source, tree, inside_of(tree), source.randint(1, 5), source.choice((1, 3, 20)))
                self.check(pool, random_results(source, parts_of(tree), source.choice((0, 0, 1, many // 2, many - 1))))

    def test_sixteen_sides(self):
        for pool in (EVEN_300, EVEN_2001):
            places = [places_by_leads(pool, entrant) for entrant in range(5)]
            for entrant in range(5):
                best, ending = best_place(pool, {}, entrant)
                self.assertEqual((best, place_of(points_of(pool, ending), entrant)), (min(places[entrant]),) * 2)
                worst, ending = worst_place(pool, {}, entrant)
                self.assertEqual((worst, place_of(points_of(pool, ending), entrant)), (max(places[entrant]),) * 2)
            self.assertEqual(hopeful(pool, {}), [entrant for entrant in range(5) if 1 in places[entrant]])

    def test_new_lists_and_orders_of_keys(self):
        for call in (best_place, worst_place):
            check_new(self, call, LATE, {0: 0, 1: 2}, 2)
            check_all_orders(self, lambda results: call(LATE, results, 3), {0: 0, 1: 2, 2: 0})
        check_new(self, hopeful, LATE, {0: 0, 1: 2})
        check_all_orders(self, lambda results: hopeful(LATE, results), {0: 0, 1: 2, 2: 0})

    def check_too_many(self, call, *arguments):
        with self.assertRaises(TooMany) as caught:
            call(*arguments)
        self.assertEqual(caught.exception.limit, 300)

    def test_too_many_for_the_best_place(self):
        for at in range(5):
            over, within = moved(CHAIN_301, at), moved(CHAIN_300, at)
            self.check_too_many(best_place, over, {}, at)
            self.check_too_many(hopeful, over, {})
            for entrant in range(5):
                if entrant != at:
                    best_place(over, {}, entrant)
                best_place(within, {}, entrant)
                # What counts for the worst place are other leads, of which there are fewer.
                worst_place(over, {}, entrant)
            hopeful(within, {})
            # What the results rule out does not count.
            best_place(over, {0: 4, 1: 1}, at)
            hopeful(over, {0: 4, 1: 1})

    def test_too_many_for_the_worst_place(self):
        for at in range(5):
            over, within = moved(WORST_301, at), moved(WORST_300, at)
            self.check_too_many(worst_place, over, {}, at)
            for entrant in range(5):
                if entrant != at:
                    worst_place(over, {}, entrant)
                self.assertIn(worst_place(within, {}, entrant)[0], range(1, 6))
                # What counts for the best place are other leads, of which there are fewer.
                best_place(over, {}, entrant)
            hopeful(over, {})
            worst_place(over, {0: 9}, at)

    def test_equal_sheets_bring_no_more_leads(self):
        tree, points, bonus, sheets = CHAIN_301
        pool = (tree, points, bonus, (sheets[0], sheets[0], sheets[2], sheets[3], sheets[4]))
        self.assertEqual(worst_place(pool, {}, 0)[0], max(places_by_leads(pool, 0)))


if __name__ == "__main__":
    unittest.main()
