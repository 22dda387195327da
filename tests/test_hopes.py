import unittest
from random import Random

from poolhopes.errors import TooMany
from poolhopes.hopes import find_hope, is_hope, is_question, maximal_leads
from tests.brute import endings_of, inside_of, is_hope_for, leads_of, maximal_table, parts_of, points_of
from tests.checks import check_all_orders, check_bool, check_new
from tests.samples import (CHAIN_300, CHAIN_301, EVEN_300, FIRST, FOUR_RIVALS, LATE, POOL, deep, junk, random_pool,
                           random_question, random_results, random_tree, twists)


class IsQuestionTest(unittest.TestCase):
    def test_examples(self):
        check_bool(self, True, is_question, POOL, FIRST)
        check_bool(self, False, is_question, POOL, ((0, 0), (), 0))

    def test_teams(self):
        for team, good in (((0,), True), ((2,), True), ((0, 1), True), ((0, 2), True), ((0, 1, 2), True), ((), False),
                           ((3,), False), ((-1,), False), ((1, 0), False), ((1, 1), False), ((0, 2, 1), False),
                           ((0, 1, 1), False), ((0, 1, 2, 3), False), ((0, 0, 1, 2), False), ([0], False), (0, False),
                           ((True,), False), ((False,), False), ((0, True), False), ((False, 1), False),
                           ((None,), False), (("0",), False), ("0", False), (None, False), (((0,),), False),
                           ({0: 0}, False), ((10 ** 29,), False), ((0, 10 ** 29), False), ((-1, 0), False)):
            check_bool(self, good, is_question, POOL, (team, ((1,),), 0))
            check_bool(self, good, is_question, POOL, ((1,), (team,), 0))
            check_bool(self, good, is_question, POOL, ((1,), ((0,), (0, 1), team, (2,)), 0))

    def test_rivals_may_share_entrants(self):
        for team, rivals in (((0,), ((0,),)), ((0, 1), ((0, 1),)), ((0, 1), ((1, 2), (0,), (0,))),
                             ((1,), ((0, 1, 2),) * 4), ((0, 1, 2), ((0,), (0, 1), (0, 2), (0, 1, 2)))):
            check_bool(self, True, is_question, POOL, (team, rivals, 0))

    def test_team_of_five(self):
        check_bool(self, True, is_question, CHAIN_300, ((0, 1, 2, 3, 4), ((0, 1, 2, 3, 4),), 0))
        check_bool(self, False, is_question, CHAIN_300, ((0, 1, 2, 3, 5), (), 0))
        check_bool(self, True, is_question, CHAIN_300, ((4,), (), 0))
        check_bool(self, False, is_question, CHAIN_300, ((5,), (), 0))

    def test_no_to_four_rivals(self):
        for many in range(8):
            check_bool(self, many <= 4, is_question, POOL, ((1,), ((0,),) * many, 0))
            check_bool(self, many <= 4, is_question, POOL, ((1,), tuple([(at % 3,) for at in range(many)]), 0))
        for rivals in ([], [(0,)], {}, {0: (0,)}, None, 0, "", (0,), ((),), ([0],), (None,), "0", ((0,), [1])):
            check_bool(self, False, is_question, POOL, ((1,), rivals, 0))

    def test_margin_from_minus_200_to_200(self):
        for margin, good in ((-201, False), (-200, True), (-1, True), (0, True), (1, True), (200, True), (201, False),
                             (True, False), (False, False), (None, False), ("0", False), ((0,), False), ([0], False),
                             (10 ** 29, False), (-10 ** 29, False)):
            check_bool(self, good, is_question, POOL, ((1,), ((0,), (2,)), margin))
            check_bool(self, good, is_question, POOL, ((1,), (), margin))

    def test_lengths_and_kinds(self):
        for value in (FIRST[:2], FIRST[1:], (*FIRST, 0), (), list(FIRST), (FIRST,), dict(enumerate(FIRST))):
            check_bool(self, False, is_question, POOL, value)
        for value in junk() + twists(FIRST) + twists(((0, 1), ((0,), (1, 2)), 1)):
            check_bool(self, False, is_question, POOL, value)
        for value in junk():
            is_margin = type(value) is int and -200 <= value <= 200
            check_bool(self, is_margin, is_question, POOL, ((1,), ((0,),), value))
            check_bool(self, value == () or value == ((0,),), is_question, POOL, ((1,), value, 0))
            check_bool(self, type(value) is tuple and value == (0,), is_question, POOL, (value, ((0,),), 0))
        check_bool(self, False, is_question, POOL, deep(FIRST, 90, tuple))


class IsHopeTest(unittest.TestCase):
    def test_examples(self):
        check_bool(self, True, is_hope, POOL, {}, FIRST, (3, 2, 2))

    def test_by_at_least_the_margin(self):
        # Behind (0, 2, 2) the points are 1, 5 and 6.
        for team, rivals, margin, good in (
                ((2,), ((1,),), 1, True), ((2,), ((1,),), 2, False), ((2,), ((0,),), 5, True),
                ((2,), ((0,),), 6, False), ((2,), ((0,), (1,)), 2, False), ((2,), ((1,), (0,)), 1, True),
                ((0,), ((2,),), -5, True), ((0,), ((2,),), -4, False), ((0, 1), ((2,),), 0, True),
                ((0, 1), ((2,),), 1, False), ((1, 2), ((0, 1), (0, 2)), 4, True), ((1, 2), ((0, 1), (0, 2)), 5, False),
                ((0,), ((0,),), 0, True), ((0,), ((0,),), 1, False), ((0,), (), 200, True),
                ((0,), ((1,),), -200, True), ((2,), ((0,),), 200, False)):
            check_bool(self, good, is_hope, POOL, {}, (team, rivals, margin), (0, 2, 2))

    def test_only_endings(self):
        check_bool(self, False, is_hope, POOL, {0: 0}, FIRST, (3, 2, 2))
        check_bool(self, False, is_hope, POOL, {1: 1}, FIRST, (3, 2, 2))
        check_bool(self, True, is_hope, POOL, {0: 3, 1: 2, 2: 2}, FIRST, (3, 2, 2))
        everything = ((1,), (), 0)
        for value in junk() + twists((0, 1, 1)) + [[0, 1, 1], (0, 1, 2), (0, 1), (0, 1, 1, 1), (0, True, 1)]:
            check_bool(self, False, is_hope, POOL, {}, everything, value)
            check_bool(self, False, is_hope, POOL, {}, FIRST, value)
        check_bool(self, True, is_hope, POOL, {}, everything, (0, 1, 1))
        check_bool(self, False, is_hope, POOL, {}, everything, deep((0, 1, 1), 90, tuple))

    def test_random_pools(self):
        source = Random(10)
        for many in range(2, 8):
            for _ in range(12):
                tree = random_tree(source, many)
                pool = random_pool(source, tree, inside_of(tree), source.randint(1, 5))
                results = random_results(source, parts_of(tree), source.randint(0, 2))
                question = random_question(source, len(pool[3]), 12)
                endings = endings_of(pool, results)
                for ending in endings_of(pool, {}):
                    good = ending in endings and is_hope_for(((pool, question),), ending)
                    check_bool(self, good, is_hope, pool, results, question, ending)


class MaximalLeadsTest(unittest.TestCase):
    def check(self, pool, results, question):
        found = maximal_leads(pool, results, question)
        self.assertEqual(found, maximal_table(((pool, question),), results))
        self.assertIs(type(found), list)
        for row in found:
            self.assertIs(type(row), dict)
            for leads in row.values():
                self.assertIs(type(leads), list)
                self.assertTrue(all(type(lead) is tuple for lead in leads))

    def test_examples(self):
        self.assertEqual(maximal_leads(POOL, {0: 0}, FIRST), [
            {0: [(-1, -1)]}, {1: [(-1, 0)], 2: [(2, 0)]}, {0: [(-1, -1)], 1: [(-2, -1)], 2: [(4, -1)]}])

    def test_no_rivals(self):
        self.assertEqual(maximal_leads(POOL, {0: 0}, ((1,), (), 7)), [{0: [()]}, {1: [()], 2: [()]},
                                                                     {0: [()], 1: [()], 2: [()]}])

    def test_all_results(self):
        self.check(POOL, {0: 3, 1: 2, 2: 2}, FIRST)
        self.assertEqual(maximal_leads(POOL, {0: 3, 1: 2, 2: 2}, FIRST), [{3: [(2, 2)]}, {2: [(2, 0)]}, {2: [(6, 2)]}])

    def test_the_margin_means_nothing(self):
        for margin in (-200, 0, 200):
            question = (FIRST[0], FIRST[1], margin)
            self.assertEqual(maximal_leads(POOL, {}, question), maximal_leads(POOL, {}, FIRST))

    def test_random_pools(self):
        source = Random(11)
        for many in range(2, 10):
            for _ in range(25):
                tree = random_tree(source, many)
                entrants = source.randint(1, 5)
                pool = random_pool(source, tree, inside_of(tree), entrants, source.choice((2, 6, 20)))
                results = random_results(source, parts_of(tree), source.choice((0, 0, 1, many // 2, many - 1)))
                self.check(pool, results, random_question(source, entrants))

    def test_sixteen_sides(self):
        self.check(EVEN_300, {}, ((1,), ((0,), (2,), (3, 4)), 0))
        self.check(EVEN_300, {0: 4, 3: 12, 4: 6}, FOUR_RIVALS)

    def test_new_lists_and_orders_of_keys(self):
        check_new(self, maximal_leads, POOL, {0: 0, 1: 2}, FIRST)
        check_new(self, maximal_leads, LATE, {0: 0, 1: 2}, ((0, 1), ((0,), (0,)), 1))
        check_all_orders(self, lambda results: maximal_leads(LATE, results, FIRST), {0: 0, 1: 2, 2: 0})

    def test_too_many(self):
        check_too_many(self, maximal_leads)


def check_too_many(test, call):
    """Check that a call raises TooMany(300) for more than 300 maximal leads, and not for 300."""
    for margin in (-200, 0, 3, 200):
        question = (*FOUR_RIVALS[:2], margin)
        with test.assertRaises(TooMany) as caught:
            call(CHAIN_301, {}, question)
        test.assertEqual(caught.exception.limit, 300)
        call(CHAIN_300, {}, question)
        call(EVEN_300, {}, question)
        # What the results rule out does not count.
        call(CHAIN_301, {0: 4, 1: 1}, question)
    # Fewer rivals, and other teams, leave fewer maximal leads.
    call(CHAIN_301, {}, ((0,), ((1,), (2,)), 0))
    call(CHAIN_301, {}, ((0,), (), 0))


class FindHopeTest(unittest.TestCase):
    def check(self, pool, results, question):
        hopes = [ending for ending in endings_of(pool, results) if is_hope_for(((pool, question),), ending)]
        found = find_hope(pool, results, question)
        if hopes:
            self.assertIs(type(found), tuple)
            self.assertIn(found, hopes)
            check_bool(self, True, is_hope, pool, results, question, found)
        else:
            self.assertIsNone(found)
        self.assertEqual(find_hope(pool, results, question), found)
        return bool(hopes)

    def test_examples(self):
        self.assertIsNone(find_hope(POOL, {0: 0}, FIRST))
        self.assertTrue(self.check(POOL, {}, FIRST))

    def test_no_rivals(self):
        for margin in (-200, 0, 200):
            self.assertTrue(self.check(POOL, {0: 3}, ((1,), (), margin)))

    def test_all_results(self):
        self.assertEqual(find_hope(POOL, {0: 3, 1: 2, 2: 2}, FIRST), (3, 2, 2))
        self.assertIsNone(find_hope(POOL, {0: 0, 1: 2, 2: 2}, FIRST))

    def test_each_margin_between_hope_and_none(self):
        source = Random(12)
        for many in range(2, 9):
            for _ in range(6):
                tree = random_tree(source, many)
                pool = random_pool(source, tree, inside_of(tree), 3)
                results = random_results(source, parts_of(tree), source.choice((0, 0, 1, 2)))
                for team, rivals in (((0,), ((1,), (2,))), ((1,), ((0,),)), ((0, 1), ((2,), (0, 2), (1, 2)))):
                    points = [points_of(pool, ending) for ending in endings_of(pool, results)]
                    best = max(min(sum(row[one] for one in team) - sum(row[one] for one in rival) for rival in rivals)
                               for row in points)
                    self.assertTrue(self.check(pool, results, (team, rivals, best)))
                    self.assertFalse(self.check(pool, results, (team, rivals, best + 1)))

    def test_random_pools(self):
        source = Random(13)
        kinds = {True: 0, False: 0}
        for many in range(2, 11):
            for _ in range(30):
                tree = random_tree(source, many)
                entrants = source.randint(1, 5)
                pool = random_pool(source, tree, inside_of(tree), entrants, source.choice((2, 6, 20)))
                results = random_results(source, parts_of(tree), source.choice((0, 0, 1, many // 2, many - 1)))
                kinds[self.check(pool, results, random_question(source, entrants))] += 1
        self.assertGreater(min(kinds.values()), 50)

    def test_large_pools(self):
        for pool in (EVEN_300, CHAIN_300):
            for margin in (-30, -10, 0, 5, 10, 20, 60):
                question = (*FOUR_RIVALS[:2], margin)
                best = max([min(lead) for leads in leads_of(((pool, question),), {})[-1].values() for lead in leads])
                found = find_hope(pool, {}, question)
                self.assertEqual(found is not None, best >= margin)
                if found is not None:
                    self.assertTrue(is_hope_for(((pool, question),), found))
                    self.assertIn(found, endings_of(pool, {}))

    def test_orders_of_keys(self):
        for margin in (-8, 0, 8):
            question = ((0, 1), ((2,), (3,)), margin)
            check_all_orders(self, lambda results: find_hope(LATE, results, question), {0: 0, 1: 2, 2: 0})

    def test_arguments_stay_as_they_are(self):
        check_new(self, find_hope, POOL, {1: 2}, FIRST)
        check_new(self, find_hope, POOL, {0: 0}, FIRST)

    def test_too_many(self):
        check_too_many(self, find_hope)

    def test_only_find_hope_raises(self):
        for ending in endings_of(CHAIN_301, {})[::512]:
            expected = is_hope_for(((CHAIN_301, FOUR_RIVALS),), ending)
            check_bool(self, expected, is_hope, CHAIN_301, {}, FOUR_RIVALS, ending)


if __name__ == "__main__":
    unittest.main()
