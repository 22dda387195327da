import unittest
from collections import Counter
from random import Random

from poolhopes.counts import count_hopes, lead_counts
from poolhopes.errors import TooMany
from tests.brute import best_margin, counts_of, endings_of, hopes_of, inside_of, leads_of, parts_of, points_of
from tests.checks import check_all_orders, check_new
from tests.samples import (CHAIN_301, EVEN_300, EVEN_2000, EVEN_2001, FIRST, FOUR_RIVALS, LATE, LEADS_2000, LEADS_2001,
                           POOL, chain_tree, even_tree, random_pool, random_question, random_results, random_tree,
                           split_first)


def leads_at_end(pool, results, question):
    """Return a dict from each lead at the end to the number of endings with it, by all endings."""
    team, rivals, _ = question
    found = Counter()
    for ending in endings_of(pool, results):
        points = points_of(pool, ending)
        mine = sum(points[one] for one in team)
        found[tuple([mine - sum(points[one] for one in rival) for rival in rivals])] += 1
    return dict(found)


def counts_at_end(pool, results, question):
    """Return the same for large pools, match by match."""
    found = Counter()
    for row in counts_of(((pool, question),), results)[-1].values():
        found.update(row)
    return dict(found)


def check_too_many(test, call):
    """Check that a call raises TooMany(2000) for more than 2,000 different leads, and not for 2,000."""
    for over, within in ((LEADS_2001, LEADS_2000), (EVEN_2001, EVEN_2000)):
        for margin in (-200, 0, 200):
            question = (*FOUR_RIVALS[:2], margin)
            with test.assertRaises(TooMany) as caught:
                call(over, {}, question)
            test.assertEqual(caught.exception.limit, 2000)
            call(within, {}, question)
        # Fewer rivals, and one rival more than once, leave fewer different leads.
        call(over, {}, ((0,), ((1,), (1,), (1,), (1,)), 0))
        call(over, {}, ((0,), (), 0))
    # What the results rule out does not count, and what they leave open does.
    open_start = split_first(LEADS_2000)
    new, first = len(LEADS_2000[1]) + 1, split_first(LEADS_2000)[3][0][0]
    with test.assertRaises(TooMany):
        call(open_start, {}, FOUR_RIVALS)
    call(open_start, {0: first}, FOUR_RIVALS)
    call(open_start, {0: new}, FOUR_RIVALS)
    with test.assertRaises(TooMany):
        call(split_first(LEADS_2001), {0: first}, FOUR_RIVALS)
    call(split_first(LEADS_2001), {0: new}, FOUR_RIVALS)


class CountsTest(unittest.TestCase):
    def check(self, pool, results, question):
        found = lead_counts(pool, results, question)
        self.assertEqual(found, leads_at_end(pool, results, question))
        self.assertIs(type(found), dict)
        for lead, many in found.items():
            self.assertIs(type(lead), tuple)
            self.assertTrue(all([type(number) is int for number in (*lead, many)]))
        hopes = count_hopes(pool, results, question)
        self.assertIs(type(hopes), int)
        self.assertEqual(hopes, len(hopes_of(pool, results, question)))

    def test_examples(self):
        self.assertEqual(count_hopes(POOL, {}, FIRST), 4)
        self.assertEqual(lead_counts(POOL, {0: 0, 1: 2}, FIRST), {(-1, -1): 1, (4, -1): 1})

    def test_no_rivals(self):
        for margin in (-200, 0, 200):
            for results, many in (({}, 8), ({0: 3}, 4), ({0: 3, 1: 2, 2: 2}, 1)):
                self.assertEqual(count_hopes(POOL, results, ((1,), (), margin)), many)
                self.assertEqual(lead_counts(POOL, results, ((1,), (), margin)), {(): many})
        self.assertEqual(count_hopes(EVEN_300, {}, ((1,), (), 0)), 2 ** 15)

    def test_the_margin_means_nothing_for_leads(self):
        for margin in (-200, 0, 200):
            self.assertEqual(lead_counts(POOL, {}, (*FIRST[:2], margin)), lead_counts(POOL, {}, FIRST))
        self.assertEqual(count_hopes(POOL, {}, (*FIRST[:2], -200)), 8)
        self.assertEqual(count_hopes(POOL, {}, (*FIRST[:2], 200)), 0)

    def test_equal_sheets_and_teams(self):
        pool = (*POOL[:3], (POOL[3][0],) * 2)
        self.assertEqual(lead_counts(pool, {}, ((0,), ((1,),), 0)), {(0,): 8})
        self.assertEqual(count_hopes(pool, {}, ((0,), ((1,), (0,)), 0)), 8)
        self.assertEqual(count_hopes(pool, {}, ((0,), ((1,), (0,)), 1)), 0)
        self.check(POOL, {}, ((0, 1), ((0, 1), (1, 2), (0,)), 0))

    def test_all_results(self):
        results = {0: 3, 1: 2, 2: 2}
        self.assertEqual(lead_counts(POOL, results, FIRST), {(6, 2): 1})
        self.assertEqual([count_hopes(POOL, results, (*FIRST[:2], margin)) for margin in (2, 3)], [1, 0])

    def test_the_same_results_with_one_more(self):
        results = {}
        for at, side in ((1, 1), (0, 0), (2, 0)):
            self.check(POOL, results, FIRST)
            results[at] = side
        self.check(POOL, results, FIRST)

    def test_each_margin(self):
        for pool in (POOL, LATE):
            for margin in range(-12, 13):
                self.check(pool, {}, ((0,), ((1,), (2,)), margin))
                self.check(pool, {0: 0}, ((0, 2), ((1,), (0, 1)), margin))

    def test_random_pools(self):
        source = Random(36)
        for many in range(2, 10):
            for _ in range(16):
                tree = random_tree(source, many)
                entrants = source.randint(1, 5)
                pool = random_pool(source, tree, inside_of(tree), entrants, source.choice((2, 6, 20)))
                results = random_results(source, parts_of(tree), source.choice((0, 0, 1, many // 2, many - 1)))
                self.check(pool, results, random_question(source, entrants, 12))

    def test_sixteen_sides(self):
        source = Random(37)
        for tree in (even_tree(source.sample(range(16), 16)), chain_tree(16), random_tree(source, 16)):
            tree, points, _, sheets = random_pool(source, tree, inside_of(tree), 5, 2)
            pool = (tree, points, 0, sheets)
            for team, rivals in (((0,), ((1,), (2,), (3, 4))), ((0, 1), ((2, 3), (2, 4), (0,)))):
                best = best_margin(pool, {}, team, rivals)
                for margin in (best + 1, best, best - 5, best - 12):
                    counts = counts_at_end(pool, {}, (team, rivals, margin))
                    self.assertEqual(lead_counts(pool, {}, (team, rivals, margin)), counts)
                    expected = sum([many for lead, many in counts.items() if min(lead) >= margin])
                    self.assertEqual(count_hopes(pool, {}, (team, rivals, margin)), expected)

    def test_exactly_2000_leads(self):
        for pool in (LEADS_2000, EVEN_2000):
            row = counts_of(((pool, FOUR_RIVALS),), {})[-1]
            self.assertEqual(max([len(leads) for leads in row.values()]), 2000)
            counts = counts_at_end(pool, {}, FOUR_RIVALS)
            # Only those of one side count for the limit.
            self.assertGreater(len(counts), 2000)
            self.assertEqual(lead_counts(pool, {}, FOUR_RIVALS), counts)
            self.assertEqual(sum(counts.values()), 2 ** len(pool[1]))

    def test_too_many(self):
        check_too_many(self, count_hopes)
        check_too_many(self, lead_counts)

    def test_300_means_nothing_here(self):
        question = ((0,), ((1,), (2,), (3,), (4,)), 0)
        results = {0: 4, 1: 1}
        self.assertEqual(lead_counts(CHAIN_301, results, question), counts_at_end(CHAIN_301, results, question))

    def test_new_dicts_and_orders_of_keys(self):
        for call in (count_hopes, lead_counts):
            check_new(self, call, LATE, {0: 0, 1: 2}, FIRST)
            check_all_orders(self, lambda results: call(LATE, results, FIRST), {0: 0, 1: 2, 2: 0})

    def test_match_by_match_is_as_by_all_endings(self):
        source = Random(38)
        for many in range(2, 9):
            tree = random_tree(source, many)
            pool = random_pool(source, tree, inside_of(tree), 3)
            results = random_results(source, parts_of(tree), source.randint(0, 2))
            asked = ((pool, ((0,), ((1,), (1, 2)), 0)), (pool, ((0, 1), ((2,),), 0)))
            counts = counts_of(asked, results)
            self.assertEqual([{side: set(row[side]) for side in row} for row in counts], leads_of(asked, results))


if __name__ == "__main__":
    unittest.main()
