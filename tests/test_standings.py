import unittest
from collections import Counter
from fractions import Fraction
from random import Random

from poolhopes.errors import TooMany
from poolhopes.standings import leaders, place_chances, place_counts
from tests.brute import chance_of, counts_of, first_of, inside_of, pair_of, parts_of, place_of, rows_of
from tests.checks import check_all_orders, check_new
from tests.samples import (CHAIN_301, EVEN, EVEN_2000, EVEN_2001, FOUR_RIVALS, LATE, LEADS_2000, LEADS_2001, POOL,
                           chain_tree, even_tree, random_chances, random_pool, random_results, random_tree, split_first)
from tests.test_chances import HUGE, same_chances


class StandingsTest(unittest.TestCase):
    def check(self, pool, results, chances):
        rows = rows_of(pool, results)
        many = len(pool[3])
        for entrant in range(many):
            counts = [0] * many
            shares = [Fraction(0)] * many
            for ending, row in rows:
                counts[place_of(row, entrant) - 1] += 1
                shares[place_of(row, entrant) - 1] += chance_of(pool, results, chances, ending)
            found = place_counts(pool, results, entrant)
            self.assertEqual(found, counts)
            self.assertEqual([type(found)] + [type(number) for number in found], [list] + [int] * many)
            found = place_chances(pool, results, chances, entrant)
            self.assertEqual(found, [pair_of(share) for share in shares])
            self.assertEqual([type(found)] + [type(share) for share in found], [list] + [tuple] * many)
            self.assertEqual({type(number) for share in found for number in share}, {int})
        found = leaders(pool, results)
        self.assertIs(type(found), dict)
        self.assertEqual(found, Counter([first_of(row) for _, row in rows]))
        self.assertEqual({type(first) for first in found}, {tuple})

    def test_examples(self):
        self.assertEqual(place_counts(POOL, {}, 1), [4, 1, 3])
        self.assertEqual(place_chances(POOL, {0: 0}, EVEN, 1), [(0, 1), (1, 4), (3, 4)])
        self.assertEqual(leaders(POOL, {0: 0}), {(0,): 2, (0, 2): 1, (2,): 1})

    def test_one_entrant_alone(self):
        pool = (*POOL[:3], POOL[3][:1])
        for results, many in (({}, 8), ({0: 3}, 4), ({0: 3, 1: 2, 2: 2}, 1)):
            self.assertEqual(place_counts(pool, results, 0), [many])
            self.assertEqual(place_chances(pool, results, EVEN, 0), [(1, 1)])
            self.assertEqual(leaders(pool, results), {(0,): many})

    def test_equal_sheets(self):
        for sheets in ((0, 0), (0, 0, 0, 0, 0), (0, 0, 1), (1, 0, 0), (0, 1, 1, 2), (0, 1, 2, 2, 2), (0, 0, 1, 1, 1)):
            self.check((*POOL[:3], tuple([POOL[3][at] for at in sheets])), {}, EVEN)
        pool = (*POOL[:3], (POOL[3][0],) * 3)
        self.assertEqual(place_counts(pool, {}, 2), [8, 0, 0])
        self.assertEqual(leaders(pool, {}), {(0, 1, 2): 8})

    def test_no_points_at_all(self):
        pool = (POOL[0], (0, 0, 0), 0, POOL[3])
        self.assertEqual(place_counts(pool, {}, 1), [8, 0, 0])
        self.assertEqual(leaders(pool, {}), {(0, 1, 2): 8})

    def test_all_results(self):
        results = {0: 3, 1: 2, 2: 2}
        self.assertEqual([place_counts(POOL, results, entrant) for entrant in range(3)],
                         [[0, 0, 1], [1, 0, 0], [0, 1, 0]])
        self.assertEqual(place_chances(POOL, results, same_chances(POOL, (1, 1)), 2), [(0, 1), (1, 1), (0, 1)])
        self.assertEqual(leaders(POOL, results), {(1,): 1})

    def test_chances_of_0_and_1(self):
        for share in ((0, 1), (1, 1)):
            for results in ({}, {0: 0}, {0: 3}):
                self.check(POOL, results, same_chances(POOL, share))

    def test_the_same_results_with_one_more(self):
        results = {}
        chances = random_chances(Random(51), 4)
        for at, side in ((1, 1), (0, 0), (2, 0)):
            self.check(POOL, results, chances)
            results[at] = side
        self.check(POOL, results, chances)
        del results[2]
        self.check(POOL, results, chances)

    def test_random_pools(self):
        source = Random(52)
        for many in range(2, 9):
            for _ in range(14):
                tree = random_tree(source, many)
                pool = random_pool(source, tree, inside_of(tree), source.randint(1, 5), source.choice((1, 2, 20)))
                results = random_results(source, parts_of(tree), source.choice((0, 0, 1, many // 2, many - 1)))
                self.check(pool, results, random_chances(source, many, source.choice(((2,), (2, 3, 10), HUGE))))

    def check_by_counts(self, pool):
        rows = Counter()
        for row in counts_of(((pool, FOUR_RIVALS),), {})[-1].values():
            for lead, many in row.items():
                rows[(0, *[-number for number in lead])] += many
        first = Counter()
        for row, many in rows.items():
            first[first_of(row)] += many
        self.assertEqual(leaders(pool, {}), first)
        for entrant in range(5):
            counts = [0] * 5
            for row, many in rows.items():
                counts[place_of(row, entrant) - 1] += many
            self.assertEqual(place_counts(pool, {}, entrant), counts)
            shares = [pair_of(Fraction(many, sum(counts))) for many in counts]
            self.assertEqual(place_chances(pool, {}, same_chances(pool, (1, 2)), entrant), shares)

    def test_sixteen_sides(self):
        source = Random(53)
        for tree in (even_tree(source.sample(range(16), 16)), chain_tree(16), random_tree(source, 16)):
            tree, points, _, sheets = random_pool(source, tree, inside_of(tree), 5, 1)
            self.check_by_counts((tree, points, 0, sheets))

    def test_exactly_2000_rows(self):
        for pool in (LEADS_2000, EVEN_2000):
            self.check_by_counts(pool)

    def calls(self, pool, results):
        """Return calls of all functions of the stage."""
        found = [lambda: leaders(pool, results)]
        for entrant in range(len(pool[3])):
            found.append(lambda which=entrant: place_counts(pool, results, which))
            for share in ((1, 2), (0, 1), (1, 1)):
                chances = same_chances(pool, share)
                found.append(lambda which=entrant, given=chances: place_chances(pool, results, given, which))
        return found

    def test_too_many(self):
        for over in (LEADS_2001, EVEN_2001, split_first(LEADS_2000)):
            for call in self.calls(over, {}):
                with self.assertRaises(TooMany) as caught:
                    call()
                self.assertEqual(caught.exception.limit, 2000)
            # Fewer entrants leave fewer rows.
            for call in self.calls((*over[:3], over[3][:3]), {}):
                call()
        # What the results rule out does not count, and 300 means nothing here.
        for pool, results in ((split_first(LEADS_2000), {0: 14}), (CHAIN_301, {0: 4, 1: 1})):
            for call in self.calls(pool, results):
                call()

    def test_new_lists_and_orders_of_keys(self):
        chances = random_chances(Random(54), 5)
        check_new(self, place_counts, LATE, {0: 0, 1: 2}, 2)
        check_new(self, place_chances, LATE, {0: 0, 1: 2}, chances, 2)
        check_new(self, leaders, LATE, {0: 0, 1: 2})
        turned = dict(sorted(chances.items(), reverse=True))
        for given in (chances, turned):
            check_all_orders(self, lambda results: place_chances(LATE, results, given, 1), {0: 0, 1: 2, 2: 0})
        check_all_orders(self, lambda results: place_counts(LATE, results, 1), {0: 0, 1: 2, 2: 0})
        check_all_orders(self, lambda results: leaders(LATE, results), {0: 0, 1: 2, 2: 0})
        self.assertEqual(place_chances(LATE, {}, chances, 0), place_chances(LATE, {}, turned, 0))


if __name__ == "__main__":
    unittest.main()
