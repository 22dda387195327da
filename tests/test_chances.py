import unittest
from fractions import Fraction
from random import Random

from poolhopes.chances import are_chances, chance, chance_if, helping, shares
from poolhopes.errors import TooMany
from tests.brute import (best_margin, chance_for, chance_of, chances_to_win, counts_of, first_of, hopes_by_gains,
                         inside_of, known_sides, pair_of, parts_of, rows_of)
from tests.checks import check_all_orders, check_bool, check_new
from tests.samples import (CHAIN_301, EVEN, EVEN_2000, EVEN_2001, FIRST, FOUR_RIVALS, LATE, LEADS_2000, LEADS_2001,
                           POOL, chain_tree, deep, even_tree, junk, random_chances, random_pool, random_question,
                           random_results, random_tree, split_first, twists)
from tests.test_counts import check_too_many

HUGE = (10 ** 29, 10 ** 29 + 33, 7 ** 34)


def same_chances(pool, share):
    """Return chances of a pool that are all the same."""
    many = len(pool[1]) + 1
    return {(one, other): share for one in range(many) for other in range(one + 1, many)}


class AreChancesTest(unittest.TestCase):
    def with_pair(self, pair, share):
        return {**EVEN, pair: share}

    def test_examples(self):
        check_bool(self, True, are_chances, POOL, EVEN)
        check_bool(self, False, are_chances, POOL, {})

    def test_pairs_left_out_turned_about_and_put_in(self):
        for pair in EVEN:
            rest = {other: EVEN[other] for other in EVEN if other != pair}
            check_bool(self, False, are_chances, POOL, rest)
            check_bool(self, False, are_chances, POOL, {**rest, pair[::-1]: (1, 2)})
            check_bool(self, False, are_chances, POOL, {**EVEN, pair[::-1]: (1, 2)})
            for other in ((0, 4), (3, 4), (-1, 0), (0, 0), (3, 3), (), (0,), (0, 1, 2), 0, None, "0", "01", (None, 1),
                          ("0", "1"), (0, "1"), ((0,), 1), (0, 10 ** 29), (-10 ** 29, 0), ((0, 1), (0, 1))):
                check_bool(self, False, are_chances, POOL, {**rest, other: (1, 2)})
                check_bool(self, False, are_chances, POOL, {**EVEN, other: (1, 2)})

    def test_bools_in_pairs(self):
        for pair in EVEN:
            rest = {other: EVEN[other] for other in EVEN if other != pair}
            for at, side in enumerate(pair):
                if side in (0, 1):
                    named = (*pair[:at], bool(side), *pair[at + 1:])
                    check_bool(self, False, are_chances, POOL, {**rest, named: (1, 2)})
        check_bool(self, False, are_chances, ((0, 1), (1,), 0, ((0,),)), {(False, True): (1, 2)})

    def test_fractions(self):
        for share, good in (((0, 1), True), ((1, 1), True), ((1, 2), True), ((2, 3), True), ((99, 100), True),
                            ((10 ** 29, 10 ** 29 + 1), True), ((1, 10 ** 29), True),
                            ((10 ** 29 - 1, 10 ** 29), True), ((10 ** 29 + 1, 10 ** 29), False),
                            ((0, 2), False), ((2, 2), False), ((2, 4), False), ((6, 9), False), ((50, 100), False),
                            ((2 * 10 ** 28, 10 ** 29), False), ((3, 2), False), ((2, 1), False), ((101, 100), False),
                            ((-1, 2), False), ((-1, 1), False), ((-1, 100), False), ((1, 0), False), ((0, 0), False),
                            ((-1, 0), False), ((1, -1), False), ((1, -2), False), ((-1, -2), False), ((0, -1), False),
                            ((-1, -1), False), ((True, 1), False), ((1, True), False), ((True, True), False),
                            ((False, 1), False), ((0, True), False), ((False, True), False), ((True, 2), False),
                            ((), False), ((1,), False), ((1, 2, 3), False), ([1, 2], False), (1, False), (0, False),
                            (None, False), ("1/2", False), ("", False), ((None, 2), False), (("1", "2"), False),
                            ((1, "2"), False), (((1, 2), 1), False), ({1: 2}, False), (((1, 2),), False),
                            ((1, None), False), ((1, ()), False), (([1], [2]), False)):
            for pair in EVEN:
                check_bool(self, good, are_chances, POOL, self.with_pair(pair, share))

    def test_the_pool_tells_the_sides(self):
        for many in range(2, 17):
            pool = (chain_tree(many), (1,) * (many - 1), 0, (tuple([0] * (many - 1)),))
            for other in range(2, 17):
                sides = same_chances((None, (1,) * (other - 1)), (1, 3))
                check_bool(self, many == other, are_chances, pool, sides)

    def test_orders_of_keys(self):
        for turned in (False, True):
            check_bool(self, True, are_chances, POOL, dict(sorted(EVEN.items(), reverse=turned)))
            by_second = sorted(EVEN.items(), key=lambda item: item[0][1], reverse=turned)
            check_bool(self, True, are_chances, POOL, dict(by_second))

    def test_other_forms(self):
        for value in junk() + twists(EVEN):
            check_bool(self, False, are_chances, POOL, value)
        for value in junk():
            for pair in EVEN:
                check_bool(self, False, are_chances, POOL, self.with_pair(pair, value))
                check_bool(self, False, are_chances, POOL, self.with_pair(pair, (value, 2)) if value != 1 else {})
        for value in (list(EVEN.items()), tuple(EVEN.items()), [EVEN], (EVEN,), list(EVEN), {0: EVEN},
                      deep(EVEN, 90, list), self.with_pair((0, 1), deep((1, 2), 90, tuple))):
            check_bool(self, False, are_chances, POOL, value)

    def test_huge_integers(self):
        huge = 10 ** 3990
        check_bool(self, True, are_chances, POOL, self.with_pair((0, 1), (huge - 1, huge)))
        check_bool(self, False, are_chances, POOL, self.with_pair((0, 1), (huge + 1, huge)))
        check_bool(self, False, are_chances, POOL, self.with_pair((0, 1), (huge - 2, huge)))
        check_bool(self, False, are_chances, POOL, self.with_pair((0, huge), (1, 2)))

    def test_random_chances(self):
        source = Random(41)
        for _ in range(20):
            value = random_chances(source, 4, (2, 3, 10, *HUGE))
            check_bool(self, True, are_chances, POOL, value)


class ChanceTest(unittest.TestCase):
    def check_fraction(self, found, expected):
        self.assertIs(type(found), tuple)
        self.assertEqual([type(number) for number in found], [int, int])
        self.assertEqual(found, pair_of(expected))

    def check(self, pool, results, chances, question):
        self.check_fraction(chance(pool, results, chances, question), chance_for(pool, results, chances, question))
        best = []
        for at in range(len(pool[1])):
            sides = known_sides(pool, results, at)
            if sides is not None:
                told = {side: chance_for(pool, {**results, at: side}, chances, question) for side in sides}
                best.extend([(-told[side], at, side) for side in sides])
                found = chance_if(pool, results, chances, question, at)
                self.assertIs(type(found), dict)
                self.assertEqual(sorted(found), sides)
                for side in sides:
                    self.check_fraction(found[side], told[side])
        found = helping(pool, results, chances, question)
        self.assertEqual(found, min(best)[1:] if best else None)

    def check_shares(self, pool, results, chances):
        expected = [Fraction(0)] * len(pool[3])
        for ending, row in rows_of(pool, results):
            first = first_of(row)
            for entrant in first:
                expected[entrant] += chance_of(pool, results, chances, ending) / len(first)
        found = shares(pool, results, chances)
        self.assertIs(type(found), tuple)
        self.assertEqual(len(found), len(expected))
        for told, share in zip(found, expected):
            self.check_fraction(told, share)

    def test_examples(self):
        self.assertEqual(chance(POOL, {}, EVEN, FIRST), (1, 2))
        self.assertEqual(chance(POOL, {0: 0}, EVEN, FIRST), (0, 1))
        self.assertEqual(chance_if(POOL, {}, EVEN, FIRST, 0), {0: (0, 1), 3: (1, 1)})
        self.assertEqual(helping(POOL, {}, EVEN, FIRST), (0, 3))
        self.assertEqual(shares(POOL, {0: 0, 1: 2}, EVEN), ((1, 4), (0, 1), (3, 4)))

    def test_no_rivals(self):
        for margin in (-200, 200):
            self.assertEqual(chance(POOL, {}, EVEN, ((1,), (), margin)), (1, 1))
            self.assertEqual(chance_if(POOL, {}, EVEN, ((1,), (), margin), 1), {1: (1, 1), 2: (1, 1)})
            # All chances are the same, so the least pair is told.
            self.assertEqual(helping(POOL, {}, EVEN, ((1,), (), margin)), (0, 0))
            self.assertEqual(helping(POOL, {0: 3}, EVEN, ((1,), (), margin)), (1, 1))
        self.assertEqual(chance(POOL, {}, EVEN, (*FIRST[:2], 200)), (0, 1))
        self.assertEqual(helping(POOL, {}, EVEN, (*FIRST[:2], 200)), (0, 0))

    def test_the_least_pair_by_side_not_by_part(self):
        pool = (((3, 0), (2, 1)), (1, 1, 2), 1, POOL[3])
        for results, pair in (({}, (0, 0)), ({0: 3}, (1, 1)), ({0: 3, 1: 2}, (2, 2))):
            self.assertEqual(helping(pool, results, EVEN, ((1,), (), 0)), pair)

    def test_no_match_with_both_parts_known(self):
        self.assertIsNone(helping(POOL, {0: 3, 1: 2, 2: 2}, EVEN, FIRST))
        self.assertIsNone(helping(POOL, {0: 3, 1: 2, 2: 2}, EVEN, (*FIRST[:2], 200)))

    def test_named_matches_are_as_they_are(self):
        # The result was all but impossible.
        chances = {**EVEN, (0, 3): (1, 1)}
        self.assertEqual(chance(POOL, {}, chances, FIRST), (0, 1))
        self.assertEqual(chance(POOL, {0: 3}, chances, FIRST), (1, 1))
        self.assertEqual(chance_if(POOL, {}, chances, FIRST, 0), {0: (0, 1), 3: (1, 1)})
        self.assertEqual(helping(POOL, {}, chances, FIRST), (0, 3))
        results = {0: 3, 1: 2, 2: 2}
        for share in ((0, 1), (1, 2), (1, 1)):
            self.assertEqual(chance(POOL, results, same_chances(POOL, share), FIRST), (1, 1))
            self.assertEqual(shares(POOL, results, same_chances(POOL, share)), ((0, 1), (1, 1), (0, 1)))

    def test_chances_of_0_and_1(self):
        # The stronger, or the weaker one, wins all matches.
        for share, ending in (((1, 1), (0, 1, 0)), ((0, 1), (3, 2, 3))):
            chances = same_chances(POOL, share)
            for team, rivals in (((0,), ((1,), (2,))), ((1,), ((0,),)), ((2,), ((1,),))):
                for margin in range(-7, 8):
                    self.check(POOL, {}, chances, (team, rivals, margin))
                    self.check(POOL, {1: 2}, chances, (team, rivals, margin))
            self.check_shares(POOL, {}, chances)
            self.assertEqual(chance_of(POOL, {}, chances, ending), 1)

    def test_one_entrant_alone(self):
        pool = (*POOL[:3], POOL[3][:1])
        self.assertEqual(shares(pool, {}, EVEN), ((1, 1),))
        self.assertEqual(chance(pool, {0: 3}, EVEN, ((0,), ((0,),), 0)), (1, 1))
        self.assertEqual(chance(pool, {0: 3}, EVEN, ((0,), ((0,),), 1)), (0, 1))

    def test_equal_sheets_split_equally(self):
        for many in range(1, 6):
            pool = (*POOL[:3], (POOL[3][0],) * many)
            self.assertEqual(shares(pool, {}, EVEN), ((1, many),) * many)
        for sheets in ((0, 0, 1), (0, 1, 1, 2), (0, 1, 2, 2, 2), (0, 0, 1, 1, 1), (1, 0, 0, 0, 0)):
            self.check_shares((*POOL[:3], tuple([POOL[3][at] for at in sheets])), {}, EVEN)

    def test_random_pools(self):
        source = Random(42)
        for many in range(2, 8):
            for _ in range(14):
                tree = random_tree(source, many)
                entrants = source.randint(1, 5)
                pool = random_pool(source, tree, inside_of(tree), entrants, source.choice((1, 2, 20)))
                results = random_results(source, parts_of(tree), source.choice((0, 0, 1, many // 2, many - 1)))
                chances = random_chances(source, many, source.choice(((2,), (2, 3, 10), HUGE)))
                team, rivals, _ = random_question(source, entrants)
                margin = best_margin(pool, results, team, rivals) - source.choice((-1, 0, 1, 3, 9))
                self.check(pool, results, chances, (team, rivals, max(-200, margin)))
                self.check_shares(pool, results, chances)

    def test_the_same_results_with_one_more(self):
        results = {}
        chances = random_chances(Random(43), 4)
        for at, side in ((1, 1), (0, 0), (2, 0)):
            self.check(POOL, results, chances, FIRST)
            self.check_shares(POOL, results, chances)
            results[at] = side
        self.check(POOL, results, chances, FIRST)
        self.check_shares(POOL, results, chances)

    def test_sixteen_sides(self):
        source = Random(44)
        for tree in (even_tree(source.sample(range(16), 16)), chain_tree(16), random_tree(source, 16)):
            tree, points, _, sheets = random_pool(source, tree, inside_of(tree), 5, 1)
            pool = (tree, points, 0, sheets)
            half = same_chances(pool, (1, 2))
            question = ((0,), ((1,), (2,)), best_margin(pool, {}, (0,), ((1,), (2,))) - 3)
            hopes = len(hopes_by_gains(pool, {}, question))
            self.check_fraction(chance(pool, {}, half, question), Fraction(hopes, 2 ** 15))
            self.check_shares_by_counts(pool, half)

    def check_shares_by_counts(self, pool, half):
        counts = counts_of(((pool, FOUR_RIVALS),), {})[-1]
        expected = [Fraction(0)] * 5
        for row in counts.values():
            for lead, many in row.items():
                first = first_of((0, *[-number for number in lead]))
                for entrant in first:
                    expected[entrant] += Fraction(many, len(first) * 2 ** 15)
        found = shares(pool, {}, half)
        self.assertEqual(found, tuple([pair_of(share) for share in expected]))

    def test_who_wins_the_final_of_sixteen(self):
        source = Random(45)
        for tree in (even_tree(source.sample(range(16), 16)), chain_tree(16), random_tree(source, 16)):
            chances = random_chances(source, 16, (2, 3, 7, 100, *HUGE))
            results = random_results(source, parts_of(tree), 2)
            won = chances_to_win(tree, results, chances)[-1]
            sheets = [tuple([inside[0] for inside in inside_of(tree)[:-1]] + [side]) for side in range(16)]
            for start in (0, 4, 8, 12):
                named = range(start, start + 4)
                pool = (tree, (0,) * 14 + (1,), 0, tuple([sheets[side] for side in named]))
                lost = 1 - sum([won.get(side, Fraction(0)) for side in named])
                expected = [won.get(side, Fraction(0)) + lost / 4 for side in named]
                self.assertEqual(shares(pool, results, chances), tuple([pair_of(share) for share in expected]))
                for entrant, side in enumerate(named):
                    question = ((entrant,), (((entrant + 1) % 4,),), 1)
                    self.check_fraction(chance(pool, results, chances, question), won.get(side, Fraction(0)))

    def test_new_dicts_and_orders_of_keys(self):
        chances = random_chances(Random(46), 5)
        check_new(self, chance, LATE, {0: 0, 1: 2}, chances, FIRST)
        check_new(self, chance_if, LATE, {0: 0}, chances, FIRST, 1)
        check_new(self, helping, LATE, {0: 0}, chances, FIRST)
        check_new(self, shares, LATE, {0: 0, 1: 2}, chances)
        turned = dict(sorted(chances.items(), reverse=True))
        for given in (chances, turned):
            check_all_orders(self, lambda results: chance(LATE, results, given, FIRST), {0: 0, 1: 2})
            check_all_orders(self, lambda results: chance_if(LATE, results, given, FIRST, 2), {0: 0, 1: 2})
            check_all_orders(self, lambda results: helping(LATE, results, given, FIRST), {0: 0, 1: 2})
            check_all_orders(self, lambda results: shares(LATE, results, given), {0: 0, 1: 2})
        self.assertEqual(shares(LATE, {}, chances), shares(LATE, {}, turned))


class TooManyTest(unittest.TestCase):
    def check_raises(self, call, *arguments):
        with self.assertRaises(TooMany) as caught:
            call(*arguments)
        self.assertEqual(caught.exception.limit, 2000)

    def test_chance(self):
        # What has no chance to come can come nevertheless.
        for share in ((1, 2), (0, 1), (1, 1)):
            check_too_many(self, lambda pool, results, question: chance(
                pool, results, same_chances(pool, share), question))

    def test_chance_if_and_helping_count_with_the_match_named(self):
        for share in ((1, 2), (0, 1), (1, 1)):
            pool = split_first(LEADS_2000)
            chances = same_chances(pool, share)
            self.check_raises(chance, pool, {}, chances, FOUR_RIVALS)
            first = pool[3][0][0]
            told = {side: chance(pool, {0: side}, chances, FOUR_RIVALS) for side in (first, 14)}
            self.assertEqual(chance_if(pool, {}, chances, FOUR_RIVALS, 0), told)
            best = max([Fraction(*told[side]) for side in told])
            least = min([side for side in told if Fraction(*told[side]) == best])
            self.assertEqual(helping(pool, {}, chances, FOUR_RIVALS), (0, least))
            pool = split_first(LEADS_2001)
            self.check_raises(chance_if, pool, {}, chances, FOUR_RIVALS, 0)
            self.check_raises(helping, pool, {}, chances, FOUR_RIVALS)
            chance(pool, {0: 14}, chances, FOUR_RIVALS)

    def test_nothing_to_name_raises_nothing(self):
        source = Random(47)
        for pool in (LEADS_2001, EVEN_2001):
            results = random_results(source, parts_of(pool[0]), len(pool[1]))
            self.assertIsNone(helping(pool, results, same_chances(pool, (1, 2)), FOUR_RIVALS))

    def test_shares_counts_rows_of_points(self):
        for share in ((1, 2), (0, 1), (1, 1)):
            for over, within in ((LEADS_2001, LEADS_2000), (EVEN_2001, EVEN_2000)):
                chances = same_chances(over, share)
                self.check_raises(shares, over, {}, chances)
                self.assertEqual(sum([Fraction(*told) for told in shares(within, {}, chances)]), 1)
                # Few leads of a question are no help: the rows of all entrants count.
                chance(over, {}, chances, ((0,), ((1,),), 0))
                # Fewer entrants leave fewer rows.
                shares((*over[:3], over[3][:3]), {}, chances)
            pool = split_first(LEADS_2000)
            chances = same_chances(pool, share)
            self.check_raises(shares, pool, {}, chances)
            shares(pool, {0: 14}, chances)
            shares(pool, {0: pool[3][0][0]}, chances)

    def test_the_least_number_is_taken_off_each_row(self):
        # One entrant names all sides that enter, the other one every second of them.
        entering = tuple(range(1, 15))
        seconds = tuple([side if side % 2 else 0 for side in entering])
        pool = (chain_tree(15), (1, 20, 2, 19, 3, 17, 5, 16, 7, 13, 11, 11, 13, 7), 0, (entering, seconds))
        rows = {}
        for ending, row in rows_of(pool, {}):
            rows.setdefault(ending[-1], set()).add(row)
        self.assertGreater(max([len(rows[side]) for side in rows]), 2000)
        self.assertLess(max([len({one - other for one, other in rows[side]}) for side in rows]), 2000)
        told = shares(pool, {}, same_chances(pool, (1, 2)))
        first = [first_of(row) for _, row in rows_of(pool, {})]
        expected = [sum([Fraction(1, len(some)) for some in first if entrant in some]) / 2 ** 14 for entrant in (0, 1)]
        self.assertEqual(told, tuple([pair_of(share) for share in expected]))

    def test_300_means_nothing_here(self):
        results = {0: 4, 1: 1}
        chances = same_chances(CHAIN_301, (1, 2))
        expected = Fraction(len(hopes_by_gains(CHAIN_301, results, FOUR_RIVALS)), 2 ** 10)
        self.assertEqual(chance(CHAIN_301, results, chances, FOUR_RIVALS), pair_of(expected))


if __name__ == "__main__":
    unittest.main()
