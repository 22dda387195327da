import unittest
from random import Random

from poolhopes.errors import TooMany
from poolhopes.musts import musts, settling
from tests.brute import (best_margin, endings_of, fewest_more, hopes_by_gains, hopes_of, inside_of, longer_results,
                         musts_of, parts_of)
from tests.checks import check_all_orders, check_new
from tests.samples import (CHAIN_300, CHAIN_301, EVEN_300, EVEN_2000, FIRST, FOUR_RIVALS, LATE, POOL, chain_tree,
                           even_tree, hidden_301, random_pool, random_question, random_results, random_tree)

SURE = ((0,), ((1,), (2,)), 1)


class MustsTest(unittest.TestCase):
    def check(self, pool, results, question):
        found = musts(pool, results, question)
        self.assertEqual(found, musts_of(results, hopes_of(pool, results, question)))
        if found is not None:
            self.assertIs(type(found), list)
            self.assertTrue(all([type(pair) is tuple for pair in found]))
        return found

    def test_examples(self):
        self.assertEqual(musts(POOL, {}, SURE), [(0, 0), (1, 1)])
        self.assertIsNone(musts(POOL, {0: 0}, FIRST))

    def test_no_rivals(self):
        for margin in (-200, 0, 200):
            self.assertEqual(musts(POOL, {}, ((1,), (), margin)), [])
            self.assertEqual(musts(POOL, {0: 3}, ((1,), (), margin)), [])

    def test_margins_at_the_limits(self):
        self.assertEqual(musts(POOL, {}, (*FIRST[:2], -200)), [])
        self.assertIsNone(musts(POOL, {}, (*FIRST[:2], 200)))

    def test_a_team_over_itself(self):
        self.assertEqual(musts(POOL, {}, ((0, 1), ((0, 1),), 0)), [])
        self.assertIsNone(musts(POOL, {}, ((0, 1), ((0, 1),), 1)))

    def test_all_results(self):
        self.assertEqual(musts(POOL, {0: 3, 1: 2, 2: 2}, FIRST), [])
        self.assertIsNone(musts(POOL, {0: 0, 1: 2, 2: 2}, FIRST))

    def test_each_margin(self):
        # The greater the margin, the more has to come, until nothing is left.
        for pool in (POOL, LATE):
            for results in ({}, {0: 0}, {0: 3}):
                for margin in range(-12, 13):
                    for team, rivals in (((0,), ((1,), (2,))), ((1,), ((0,),)), ((0, 2), ((0, 1), (1,)))):
                        self.check(pool, results, (team, rivals, margin))

    def test_the_same_results_with_one_more(self):
        results = {}
        for at, side in ((1, 1), (0, 0), (2, 0)):
            self.check(POOL, results, SURE)
            results[at] = side
        self.assertEqual(musts(POOL, results, SURE), [])
        del results[2]
        self.check(POOL, results, SURE)

    def test_random_pools(self):
        source = Random(32)
        kinds = {"none": 0, "empty": 0, "some": 0}
        for many in range(2, 10):
            for _ in range(40):
                tree = random_tree(source, many)
                entrants = source.randint(1, 5)
                pool = random_pool(source, tree, inside_of(tree), entrants, source.choice((2, 6, 20)))
                results = random_results(source, parts_of(tree), source.choice((0, 0, 1, many // 2, many - 1)))
                found = self.check(pool, results, near_question(source, pool, results))
                kinds["none" if found is None else "some" if found else "empty"] += 1
        self.assertGreater(min(kinds.values()), 20)

    def test_sixteen_sides(self):
        source = Random(33)
        found = []
        for pool in (EVEN_300, EVEN_2000, CHAIN_300, random_sixteen(source, chain_tree(16)),
                     random_sixteen(source, even_tree(list(range(16))))):
            for team, rivals in (((0,), ((1,), (2,))), ((3,), ((0,), (1, 4)))):
                best = best_margin(pool, {}, team, rivals)
                question = (team, rivals, best)
                found.append(musts(pool, {}, question))
                self.assertEqual(found[-1], musts_of({}, hopes_by_gains(pool, {}, question)))
                self.assertIsNone(musts(pool, {}, (team, rivals, best + 1)))
        self.assertTrue(any(found))

    def test_new_lists_and_orders_of_keys(self):
        check_new(self, musts, POOL, {}, SURE)
        check_new(self, musts, POOL, {0: 0}, SURE)
        for margin in (-8, 0, 2):
            question = ((0, 1), ((2,), (3,)), margin)
            check_all_orders(self, lambda results: musts(LATE, results, question), {0: 0, 1: 2, 2: 0})

    def test_too_many_as_for_a_hope(self):
        for margin in (-200, 0, 3, 200):
            question = (*FOUR_RIVALS[:2], margin)
            with self.assertRaises(TooMany) as caught:
                musts(CHAIN_301, {}, question)
            self.assertEqual(caught.exception.limit, 300)
            musts(CHAIN_300, {}, question)
            musts(EVEN_300, {}, question)
            # What the results rule out does not count.
            musts(CHAIN_301, {0: 4, 1: 1}, question)
        musts(CHAIN_301, {}, ((0,), ((1,), (2,)), 0))
        musts(CHAIN_301, {}, ((0,), (), 0))

    def test_too_many_only_as_for_a_hope(self):
        pool = hidden_301()
        for margin in (-60, -20, -9, 0, 9, 15):
            question = (*FOUR_RIVALS[:2], margin)
            self.assertEqual(musts(pool, {}, question), musts_of({}, hopes_by_gains(pool, {}, question)))
            with self.assertRaises(TooMany):
                musts(pool, {0: 2}, question)
        self.assertEqual(musts(pool, {}, (*FOUR_RIVALS[:2], -60)), [])


def near_question(source, pool, results):
    """Return a random question with a margin near the greatest one with which there is a hope."""
    team, rivals, _ = random_question(source, len(pool[3]))
    best = best_margin(pool, results, team, rivals)
    return (team, rivals, max(-200, min(200, best - source.choice((-1, 0, 0, 1, 2, 4, 8, 20)))))


def random_sixteen(source, tree):
    """Return a random pool on a tree for sixteen sides."""
    return random_pool(source, tree, inside_of(tree), 5, 4)


class SettlingTest(unittest.TestCase):
    def check(self, pool, results, question):
        found = settling(pool, results, question)
        fewest = fewest_more(pool, results, question)
        self.assertEqual(settling(pool, dict(results), question), found)
        if fewest is None:
            self.assertIsNone(found)
            return None
        self.assertIs(type(found), dict)
        self.assertEqual(len(found), fewest)
        # Whatever is chosen has the results in it, and only hopes are left behind it.
        self.assertEqual({at: found[at] for at in results}, results)
        self.assertIn(found, longer_results(pool, results))
        hopes = hopes_of(pool, results, question)
        self.assertTrue(all([ending in hopes for ending in endings_of(pool, found)]))
        return fewest - len(results)

    def test_examples(self):
        self.assertIsNone(settling(POOL, {0: 0}, FIRST))

    def test_each_number_of_results(self):
        source = Random(34)
        found = {}
        for many in range(2, 9):
            for _ in range(14):
                tree = random_tree(source, many)
                entrants = source.randint(1, 5)
                pool = random_pool(source, tree, inside_of(tree), entrants, source.choice((2, 20)))
                results = random_results(source, parts_of(tree), source.choice((0, 0, 1, many // 2, many - 1)))
                fewest = self.check(pool, results, near_question(source, pool, results))
                found[fewest] = found.get(fewest, 0) + 1
        for fewest in (None, 0, 1, 2, 3):
            self.assertGreater(found[fewest], 2, found)

    def test_nothing_more_if_all_endings_are_hopes(self):
        for results in ({}, {0: 3}, {0: 3, 1: 2, 2: 2}):
            self.assertEqual(settling(POOL, results, ((1,), (), 200)), results)
            self.assertEqual(settling(POOL, results, ((1,), ((0,), (2,)), -200)), results)
            self.assertIsNone(settling(POOL, results, ((1,), ((0,), (2,)), 200)))

    def test_all_results(self):
        self.assertEqual(settling(POOL, {0: 3, 1: 2, 2: 2}, FIRST), {0: 3, 1: 2, 2: 2})
        self.assertIsNone(settling(POOL, {0: 0, 1: 2, 2: 2}, FIRST))

    def test_the_same_results_with_one_more(self):
        results = {}
        for at, side in ((1, 1), (0, 0), (2, 0)):
            self.check(POOL, results, SURE)
            results[at] = side
        self.check(POOL, results, SURE)

    def test_seven_and_eight_matches_without_a_name(self):
        source = Random(35)
        for tree in (chain_tree(9), even_tree(list(range(16))), random_tree(source, 9), random_tree(source, 13)):
            parts = parts_of(tree)
            pool = random_pool(source, tree, inside_of(tree), 3)
            for open_matches in (0, 1, 6, 7):
                results = random_results(source, parts, len(parts) - open_matches)
                for margin in (-3, 4):
                    self.check(pool, results, ((0,), ((1,), (2,)), margin))
                settling(pool, results, ((0,), (), 200))
            for open_matches in range(8, len(parts) + 1):
                results = random_results(source, parts, len(parts) - open_matches)
                for question in (((0,), ((1,), (2,)), 0), ((0,), (), 200), ((0,), ((0,),), 1)):
                    with self.assertRaises(TooMany) as caught:
                        settling(pool, results, question)
                    self.assertEqual(caught.exception.limit, 7)

    def test_new_dicts_and_orders_of_keys(self):
        for margin in (-20, -2, 1):
            question = ((0, 1), ((2,), (3,)), margin)
            check_new(self, settling, LATE, {0: 0, 1: 2}, question)
            check_all_orders(self, lambda results: settling(LATE, results, question), {0: 0, 1: 2, 2: 0})
        results = {0: 3, 1: 2, 2: 2}
        self.assertIsNot(settling(POOL, results, FIRST), results)
        check_new(self, settling, POOL, results, FIRST)


if __name__ == "__main__":
    unittest.main()
