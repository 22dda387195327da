import unittest
from copy import deepcopy
from random import Random

from poolhopes.covers import find_cover, is_cover
from poolhopes.hopes import find_hope
from tests.brute import (endings_of, inside_of, is_hope_for, keeps_cover, leads_of, maximal_table, parts_of,
                         winners_of)
from tests.checks import check_all_orders, check_bool, check_new
from tests.samples import (CHAIN_300, CHAIN_301, EVEN_300, FIRST, FOUR_RIVALS, LATE, POOL, deep, junk, random_pool,
                           random_question, random_results, random_tree, twists)
from tests.test_hopes import check_too_many

LOOSE = [{0: [(-1, -1)]}, {1: [(2, 0)], 2: [(2, 0)]}, {0: [(0, -1)], 1: [(9, -1)], 2: [(4, -1)]}]
TIGHT = [{0: [(-1, -1)]}, {1: [(-1, 0)], 2: [(2, 0)]}, {0: [(-1, -1)], 1: [(-2, -1)], 2: [(4, -1)]}]
NAMED = {0: 0}


def largest(value):
    """Return the greatest amount of an integer in a cover."""
    return max([abs(number) for row in value for leads in row.values() for lead in leads for number in lead])


class IsCoverTest(unittest.TestCase):
    def test_examples(self):
        check_bool(self, True, is_cover, POOL, NAMED, FIRST, LOOSE)
        check_bool(self, True, is_cover, POOL, NAMED, FIRST, TIGHT)

    def changed(self, at, side, leads, start=TIGHT):
        value = deepcopy(start)
        value[at][side] = leads
        return value

    def test_sums_are_at_most_some_lead(self):
        for at, side, leads, good in (
                (0, 0, [(-1, -2)], False), (0, 0, [(-2, -1)], False), (0, 0, [(-1, -1), (-5, -5)], True),
                (1, 1, [(-2, 0)], False), (1, 1, [(-1, -1)], False), (1, 1, [(-2, 0), (-1, -1)], False),
                (1, 2, [(1, 0)], False), (1, 2, [(2, -1)], False), (2, 0, [(-2, -1)], False),
                (2, 0, [(-1, -2)], False), (2, 1, [(-3, -1)], False), (2, 2, [(3, -1)], False),
                (2, 2, [(4, -2)], False), (2, 2, [(3, -1), (4, -2)], False), (2, 2, [(4, -1), (3, -1), (4, -2)], True),
                (2, 2, [(3, -1), (4, -2), (4, -1)], True), (2, 2, [(5, -1)], True), (2, 0, [(99, -1)], True)):
            check_bool(self, good, is_cover, POOL, NAMED, FIRST, self.changed(at, side, leads))

    def test_each_lead_of_a_list_counts(self):
        # A needless lead in a part asks for more at the match in which the part is.
        for leads, good in (([(2, 0), (1, 0)], True), ([(2, 0), (3, 0)], False), ([(3, 0), (2, 0)], False),
                            ([(2, 0), (2, 0)], True), ([(2, 1), (2, 0)], False), ([(-9, 0), (2, 0)], True)):
            check_bool(self, good, is_cover, POOL, NAMED, FIRST, self.changed(1, 2, leads))
        for leads, good in (([(-1, -1), (-1, 0)], False), ([(0, -1), (-1, -1)], False), ([(-9, -1), (-1, -1)], True)):
            check_bool(self, good, is_cover, POOL, NAMED, FIRST, self.changed(0, 0, leads))

    def test_leads_of_losers_count(self):
        # Side 2 gets more in its part than the final takes from it when side 0 wins.
        check_bool(self, False, is_cover, POOL, NAMED, FIRST, self.changed(1, 2, [(5, 0)]))
        value = self.changed(1, 2, [(5, 0)])
        value[2] = {0: [(2, -1)], 1: [(-2, -1)], 2: [(7, -1)]}
        check_bool(self, True, is_cover, POOL, NAMED, FIRST, value)

    def test_leads_of_the_final_stay_below_the_margin(self):
        for leads, good in (([(4, -1)], True), ([(4, 0)], False), ([(4, -1), (4, 0)], False), ([(4, 5)], False),
                            ([(4, 0), (4, -1)], False), ([(4, -1), (-1, 9)], True), ([(4, -1), (0, 0)], False),
                            ([(10 ** 29, -1)], True), ([(10 ** 29, 10 ** 29)], False), ([(4, -1), (-1, -1)], True)):
            check_bool(self, good, is_cover, POOL, NAMED, FIRST, self.changed(2, 2, leads))
        for margin, good in ((-1, False), (0, True), (1, True), (200, True), (-200, False)):
            check_bool(self, good, is_cover, POOL, NAMED, (*FIRST[:2], margin), TIGHT)

    def test_one_integer_below_is_enough(self):
        value = [{0: [(-1, -1)]}, {1: [(-1, 0)], 2: [(2, 0)]}, {0: [(-1, -1)], 1: [(-2, 8)], 2: [(4, -1)]}]
        check_bool(self, True, is_cover, POOL, NAMED, FIRST, value)

    def test_no_rivals(self):
        for value in ([{0: [()]}, {1: [()], 2: [()]}, {0: [()], 1: [()], 2: [()]}], TIGHT, []):
            for margin in (-200, 0, 200):
                check_bool(self, False, is_cover, POOL, NAMED, ((1,), (), margin), value)

    def test_just_the_sides_that_can_win(self):
        for results, good in (({0: 0}, True), ({}, False), ({0: 3}, False), ({0: 0, 1: 1}, False),
                              ({0: 0, 1: 2}, False), ({0: 0, 1: 1, 2: 1}, False)):
            check_bool(self, good, is_cover, POOL, results, FIRST, TIGHT)
        for at in range(3):
            for side in range(-1, 5):
                value = deepcopy(LOOSE)
                if side in value[at]:
                    del value[at][side]
                else:
                    value[at][side] = [(-9, -9)]
                check_bool(self, False, is_cover, POOL, NAMED, FIRST, value)
        for at in range(3):
            for key in (None, "0", "", (), (0,), (0, 1), 10 ** 29) + ((True,), (False,), ())[at]:
                value = deepcopy(LOOSE)
                value[at][key] = [(-9, -9)]
                check_bool(self, False, is_cover, POOL, NAMED, FIRST, value)
        check_bool(self, True, is_cover, POOL, {0: 0, 1: 1, 2: 1}, FIRST,
                   [{0: [(-1, -1)]}, {1: [(-1, 0)]}, {1: [(-2, -1)]}])
        check_bool(self, False, is_cover, POOL, {0: 0, 1: 1, 2: 0}, FIRST,
                   [{0: [(-1, -1)]}, {1: [(-1, 0)]}, {1: [(-2, -1)]}])

    def test_bools_are_no_sides_and_no_integers(self):
        check_bool(self, False, is_cover, POOL, NAMED, FIRST, [{False: [(-1, -1)]}, *TIGHT[1:]])
        check_bool(self, False, is_cover, POOL, NAMED, FIRST, [TIGHT[0], {True: [(-1, 0)], 2: [(2, 0)]}, TIGHT[2]])
        check_bool(self, False, is_cover, POOL, NAMED, FIRST, self.changed(1, 2, [(2, False)]))
        check_bool(self, False, is_cover, POOL, NAMED, FIRST, self.changed(1, 2, [(2, 0), (True, False)]))
        check_bool(self, False, is_cover, POOL, NAMED, FIRST, self.changed(2, 2, [(4, -1), (True, -1)]))

    def test_lists_of_one_or_more_leads(self):
        for leads in ([], (), None, 0, ((4, -1),), [[4, -1]], (4, -1), [4, -1], [(4,)], [()], [(4, -1, -1)],
                      [(4, -1), (4, -1, 0)], [(4, -1), ()], [(4, -1), None], [(4, None)], [("4", "-1")], {(4, -1): 0},
                      {0: (4, -1)}, [(4, -1), [4, -1]], [((4, -1),)], [(4, (-1,))], "4", [(-1,)], [(4, -1), (-1,)]):
            check_bool(self, False, is_cover, POOL, NAMED, FIRST, self.changed(2, 2, leads))

    def test_other_forms(self):
        for value in (TIGHT[:2], TIGHT[1:], [*TIGHT, {}], [*TIGHT, TIGHT[2]], tuple(TIGHT), [TIGHT], TIGHT[::-1], {},
                      dict(enumerate(TIGHT)), [TIGHT[0], {}, TIGHT[2]], [TIGHT[0], TIGHT[1], None]):
            check_bool(self, False, is_cover, POOL, NAMED, FIRST, value)
        for value in junk() + twists(TIGHT) + twists(LOOSE):
            check_bool(self, False, is_cover, POOL, NAMED, FIRST, value)
        for value in junk():
            for at in range(3):
                check_bool(self, False, is_cover, POOL, NAMED, FIRST, [*TIGHT[:at], value, *TIGHT[at + 1:]])
            check_bool(self, False, is_cover, POOL, NAMED, FIRST, self.changed(2, 1, value))
            check_bool(self, False, is_cover, POOL, NAMED, FIRST, self.changed(2, 1, [value]))
            check_bool(self, False, is_cover, POOL, NAMED, FIRST, self.changed(2, 1, [(-2, -1), value]))
        check_bool(self, False, is_cover, POOL, NAMED, FIRST, deep(TIGHT, 90, list))
        check_bool(self, False, is_cover, POOL, NAMED, FIRST, self.changed(2, 1, [(-2, deep(-1, 90, tuple))]))

    def test_large_integers_and_long_lists(self):
        huge = 10 ** 3990
        check_bool(self, True, is_cover, POOL, NAMED, FIRST, self.changed(2, 2, [(huge, -1)]))
        check_bool(self, True, is_cover, POOL, NAMED, FIRST, self.changed(1, 2, [(2, 0), (-huge, -huge)]))
        check_bool(self, False, is_cover, POOL, NAMED, FIRST, self.changed(1, 2, [(2, 0), (huge, -huge)]))
        check_bool(self, False, is_cover, POOL, NAMED, FIRST, self.changed(2, 1, [(-huge, -1)]))
        many = [(4 + number, -1 - number) for number in range(3000)]
        check_bool(self, True, is_cover, POOL, NAMED, FIRST, self.changed(2, 2, many))
        check_bool(self, True, is_cover, POOL, NAMED, FIRST, self.changed(2, 2, many[::-1]))
        check_bool(self, False, is_cover, POOL, NAMED, FIRST, self.changed(2, 2, many[1:]))
        check_bool(self, False, is_cover, POOL, NAMED, FIRST, self.changed(2, 2, [*many, (0, 0)]))
        check_bool(self, True, is_cover, POOL, NAMED, FIRST, self.changed(1, 1, [(-1, 0)] * 3000))
        low = [(-1, 0)] + [(-2 - number, number - 9000) for number in range(3000)]
        check_bool(self, True, is_cover, POOL, NAMED, FIRST, self.changed(1, 1, low))

    def test_random_changes(self):
        source = Random(14)
        kinds = {True: 0, False: 0}
        for many in range(2, 7):
            for _ in range(60):
                tree = random_tree(source, many)
                entrants = source.randint(2, 4)
                pool = random_pool(source, tree, inside_of(tree), entrants, source.choice((2, 6)))
                results = random_results(source, parts_of(tree), source.choice((0, 0, 1, many - 1)))
                team, rivals, margin = random_question(source, entrants, 3)
                question = (team, rivals + ((0,),) if not rivals else rivals, margin)
                value = maximal_table(((pool, question),), results)
                for _ in range(4):
                    check_bool(self, keeps_cover(((pool, question),), results, value), is_cover, pool, results,
                               question, value)
                    at = source.randrange(len(value))
                    side = source.choice(sorted(value[at]))
                    leads = value[at][side]
                    lead = list(source.choice(leads))
                    lead[source.randrange(len(lead))] += source.choice((-1, 1, 1, 2))
                    if source.random() < 0.5:
                        leads[source.randrange(len(leads))] = tuple(lead)
                    else:
                        leads.append(tuple(lead))
                    good = keeps_cover(((pool, question),), results, value)
                    kinds[good] += 1
                    check_bool(self, good, is_cover, pool, results, question, value)
        self.assertGreater(min(kinds.values()), 100)

    def test_more_than_300_leads(self):
        asked = ((CHAIN_301, FOUR_RIVALS),)
        value = maximal_table(asked, {})
        longest = max(value[-1].values(), key=len)
        self.assertEqual(len(longest), 301)
        best = max([min(lead) for leads in value[-1].values() for lead in leads])
        check_bool(self, True, is_cover, CHAIN_301, {}, (*FOUR_RIVALS[:2], best + 1), value)
        check_bool(self, False, is_cover, CHAIN_301, {}, (*FOUR_RIVALS[:2], best), value)
        lead = longest.pop(150)
        check_bool(self, False, is_cover, CHAIN_301, {}, (*FOUR_RIVALS[:2], best + 1), value)
        longest.append((lead[0], lead[1], lead[2] - 1, lead[3]))
        check_bool(self, False, is_cover, CHAIN_301, {}, (*FOUR_RIVALS[:2], best + 1), value)
        longest.append(lead)
        check_bool(self, True, is_cover, CHAIN_301, {}, (*FOUR_RIVALS[:2], best + 1), value)

    def test_all_leads_that_can_come(self):
        asked = ((EVEN_300, ((0,), ((1,), (2,)), 200)),)
        value = [{side: sorted(row[side]) for side in row} for row in leads_of(asked, {})]
        self.assertGreater(max(len(leads) for leads in value[-1].values()), 300)
        check_bool(self, True, is_cover, EVEN_300, {}, ((0,), ((1,), (2,)), 200), value)
        check_bool(self, False, is_cover, EVEN_300, {}, ((0,), ((1,), (2,)), -200), value)


class FindCoverTest(unittest.TestCase):
    def check(self, pool, results, question):
        asked = ((pool, question),)
        found = find_cover(pool, results, question)
        if any([is_hope_for(asked, ending) for ending in endings_of(pool, results)]):
            self.assertIsNone(found)
            self.assertIsNotNone(find_hope(pool, results, question))
        else:
            self.assertIsNone(find_hope(pool, results, question))
            self.assertTrue(keeps_cover(asked, results, found))
            self.assertLessEqual(largest(found), 10 ** 30)
            check_bool(self, True, is_cover, pool, results, question, found)
            self.assertEqual(find_cover(pool, results, question), found)
        return found is None

    def test_examples(self):
        self.assertTrue(self.check(POOL, {}, FIRST))
        self.assertFalse(self.check(POOL, NAMED, FIRST))

    def test_no_rivals(self):
        for results in ({}, NAMED, {0: 0, 1: 1, 2: 1}):
            self.assertTrue(self.check(POOL, results, ((1,), (), 200)))

    def test_all_results(self):
        self.assertTrue(self.check(POOL, {0: 3, 1: 2, 2: 2}, FIRST))
        self.assertFalse(self.check(POOL, {0: 0, 1: 2, 2: 2}, FIRST))

    def test_random_pools(self):
        source = Random(15)
        kinds = {True: 0, False: 0}
        for many in range(2, 9):
            for _ in range(40):
                tree = random_tree(source, many)
                entrants = source.randint(1, 5)
                pool = random_pool(source, tree, inside_of(tree), entrants, source.choice((2, 6, 20)))
                results = random_results(source, parts_of(tree), source.choice((0, 0, 1, many // 2, many - 1)))
                kinds[self.check(pool, results, random_question(source, entrants))] += 1
        self.assertGreater(min(kinds.values()), 50)

    def test_sizes_up_to_16(self):
        source = Random(16)
        for many in range(9, 17):
            tree = random_tree(source, many)
            pool = random_pool(source, tree, inside_of(tree), 5)
            for margin in (-20, 0, 10, 20, 40, 100):
                question = ((0,), ((1,), (2,), (3, 4)), margin)
                hope, cover = find_hope(pool, {}, question), find_cover(pool, {}, question)
                self.assertIs(hope is None, cover is not None)
                if hope is None:
                    check_bool(self, True, is_cover, pool, {}, question, cover)
                    self.assertEqual([sorted(row) for row in cover], [sorted(row) for row in winners_of(tree, {})])
                else:
                    self.assertTrue(is_hope_for(((pool, question),), hope))

    def test_margins_beyond_all_points(self):
        for pool in (POOL, LATE, CHAIN_300, EVEN_300):
            team, rivals = ((0, 1, 2), ((0,), (1,))) if len(pool[3]) < 5 else FOUR_RIVALS[:2]
            self.assertIsNone(find_hope(pool, {}, ((0,), rivals, 200)))
            self.assertTrue(is_cover(pool, {}, ((0,), rivals, 200), find_cover(pool, {}, ((0,), rivals, 200))))
            self.assertIsNone(find_cover(pool, {}, (team, rivals, -200)))
            self.assertIsNotNone(find_hope(pool, {}, (team, rivals, -200)))

    def test_new_lists_and_orders_of_keys(self):
        check_new(self, find_cover, POOL, NAMED, FIRST)
        check_new(self, find_cover, LATE, {1: 2, 0: 0}, ((0,), ((1,), (1,)), 40))
        check_all_orders(self, lambda results: find_cover(LATE, results, ((0,), ((1,), (2,)), 40)), {0: 0, 1: 2, 2: 0})

    def test_too_many(self):
        check_too_many(self, find_cover)


if __name__ == "__main__":
    unittest.main()
