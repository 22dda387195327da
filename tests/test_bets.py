import unittest
from copy import deepcopy
from fractions import Fraction
from random import Random
from time import perf_counter

from poolhopes.bets import need_with, next_bet, safe_bets
from poolhopes.worths import find_plan, secures, worth
from tests.brute import pair_of, parts_of
from tests.checks import check_all_orders, check_too_many
from tests.money import (BOOK, FLAT, HUGE, LADDER, LITTLE, NO_LADDER, OWED, QUOTES, TEN, TWO, WIDE, both_worths,
                         cost_of, exact_of, full_ladder, full_pool, limits_of, missing_by_ending, next_of,
                         random_case, share_of, worth_of)
from tests.samples import POOL, random_results


class BetsCase(unittest.TestCase):
    def check_fraction(self, found, expected):
        self.assertEqual(found, pair_of(expected))
        self.assertEqual([type(found)] + [type(number) for number in found], [tuple, int, int])

    def need(self, pool, results, quotes, book, bet):
        """Return what a bet needs, as point [30] has it."""
        ladder, one, other = both_worths(pool, results, quotes, book)
        return max(one - bet, other) + cost_of(ladder, bet)

    def check_safe(self, pool, results, quotes, book, money):
        """Check the least and the greatest safe bet; return them as Fractions, or None."""
        ladder, one, other = both_worths(pool, results, quotes, book)

        def need(bet):
            return max(one - bet, other) + cost_of(ladder, bet)

        found = safe_bets(pool, results, quotes, book, pair_of(money))
        if money < need(exact_of(ladder, one, other)):
            self.assertIsNone(found)
            return None
        self.assertIs(type(found), tuple)
        low, high = limits_of(ladder)
        shares = [share_of(bet) for bet in found]
        for bet, share in zip(found, shares):
            self.check_fraction(bet, share)
            self.assertLessEqual(need(share), money)
        self.assertTrue(low <= shares[0] <= shares[1] <= high)
        for share in (shares[0] - LITTLE, shares[1] + LITTLE, (low + shares[0]) / 2, (high + shares[1]) / 2):
            if low <= share <= high and not shares[0] <= share <= shares[1]:
                self.assertGreater(need(share), money)
        for part in (1, 2, 3):
            self.assertLessEqual(need(shares[0] + (shares[1] - shares[0]) * Fraction(part, 4)), money)
        return shares


class NeedTest(BetsCase):
    def test_examples(self):
        self.assertEqual(next_bet(TWO, {}, QUOTES, (TEN,)), (10, 1))
        self.assertEqual(need_with(TWO, {}, QUOTES, (TEN,), (5, 1)), (41, 5))
        self.assertIsNone(next_bet(TWO, {0: 0}, QUOTES, (TEN,)))

    def test_at_the_limits(self):
        for ladder in (LADDER, WIDE, full_ladder(4), NO_LADDER, (LADDER[0], ()), ((), LADDER[1])):
            low, high = limits_of(ladder)
            quotes = {(0, 1): ladder}
            for book in ((TEN,), (OWED,), (), (TEN,) * 3, (OWED,) * 8):
                bet = next_bet(TWO, {}, quotes, book)
                paid = sum([contract[0][0] for contract in book])
                self.check_fraction(bet, max(Fraction(low), min(Fraction(high), Fraction(paid))))
                self.assertEqual(need_with(TWO, {}, quotes, book, bet), worth(TWO, {}, quotes, book))
                for top in (Fraction(low), Fraction(high), Fraction(0), (low + high) / Fraction(2), low / Fraction(3)):
                    self.check_fraction(need_with(TWO, {}, quotes, book, pair_of(top)),
                                        self.need(TWO, {}, quotes, book, top))

    def test_random_cases(self):
        source = Random(130)
        for _ in range(150):
            pool, results, quotes, book = random_case(source, 6)
            bet = next_bet(pool, results, quotes, book)
            plan = find_plan(pool, results, quotes, book)
            if next_of(pool, results) is None:
                self.assertIsNone(bet)
                continue
            ladder, one, other = both_worths(pool, results, quotes, book)
            self.check_fraction(bet, exact_of(ladder, one, other))
            self.assertEqual(bet, plan[()])
            low, high = limits_of(ladder)
            for _ in range(4):
                bottom = source.choice((1, 3, 100, 10 ** 60))
                share = Fraction(source.randint(low * bottom, high * bottom), bottom)
                needed = need_with(pool, results, quotes, book, pair_of(share))
                self.check_fraction(needed, self.need(pool, results, quotes, book, share))
                # That is the least money from which a plan with this bet secures the book.
                with_it = {**plan, (): pair_of(share)}
                missing = missing_by_ending(pool, results, quotes, book, with_it)
                self.assertEqual(share_of(needed), max(missing.values()))
                self.assertTrue(secures(pool, results, quotes, book, with_it, needed))
            check_all_orders(self, lambda some: next_bet(pool, some, quotes, book), results)
            check_all_orders(self, lambda some: need_with(pool, results, some, book, bet), quotes)

    def test_integers_of_a_thousand_digits(self):
        for share in (Fraction(HUGE, HUGE + 1), Fraction(-HUGE, 7 * HUGE + 1), Fraction(1, HUGE)):
            found = need_with(POOL, {}, FLAT, BOOK, pair_of(share))
            self.check_fraction(found, self.need(POOL, {}, FLAT, BOOK, share))


class SafeTest(BetsCase):
    def test_examples(self):
        self.assertEqual(safe_bets(TWO, {}, QUOTES, (TEN,), (41, 5)), ((5, 1), (10, 1)))
        self.assertIsNone(safe_bets(TWO, {}, QUOTES, (TEN,), (7, 1)))

    def test_money_by_hand(self):
        # At the worth of 36/5 just the bet 10 is left; the more money, the more bets.
        for money, expected in (((36, 5), ((10, 1), (10, 1))), ((7199999999, 10 ** 9), None),
                                ((8, 1), ((6, 1), (10, 1))), ((83, 10), ((9, 2), (10, 1))),
                                ((42, 5), ((4, 1), (10, 1))), ((10, 1), ((0, 1), (10, 1))),
                                ((21, 2), ((-1, 1), (10, 1))), ((60, 1), ((-100, 1), (10, 1))),
                                ((HUGE, 1), ((-100, 1), (10, 1))), ((-HUGE, 3), None), ((0, 1), None)):
            self.assertEqual(safe_bets(TWO, {}, QUOTES, (TEN,), money), expected)
        # Selling ten tickets brings 5, and -10 is paid if they win.
        for money, expected in (((-5, 1), ((-10, 1), (-10, 1))), ((-4, 1), ((-12, 1), (-8, 1))),
                                ((0, 1), ((-20, 1), (0, 1))), ((3, 5), ((-106, 5), (1, 1)))):
            self.assertEqual(safe_bets(TWO, {}, QUOTES, (OWED,), money), expected)

    def test_prices_of_nothing_and_one(self):
        for ladder in (((((0, 1), 5), ((1, 1), 5)), ()), ((), (((1, 1), 5), ((0, 1), 5))),
                       ((((1, 1), 5),), (((0, 1), 5),)),
                       ((((0, 1), 5),), (((0, 1), 5),)), ((((1, 1), 5),), (((1, 1), 5),)), NO_LADDER):
            quotes = {(0, 1): ladder}
            for amount in (-12, -10, -5, -2, 0, 2, 5, 7, 10, 12):
                book = (((amount, TEN[0][1]),),)
                needed = worth_of(TWO, {}, quotes, book)
                for more in (Fraction(0), -LITTLE, LITTLE, Fraction(1), Fraction(5), Fraction(7), Fraction(20)):
                    self.check_safe(TWO, {}, quotes, book, needed + more)
        # What costs nothing can be done in full, even with just the money that is needed.
        self.assertEqual(safe_bets(TWO, {}, {(0, 1): ((((0, 1), 5),), ())}, (), (0, 1)), ((0, 1), (5, 1)))
        self.assertEqual(safe_bets(TWO, {}, {(0, 1): ((), (((1, 1), 5),))}, (), (0, 1)), ((-5, 1), (0, 1)))

    def test_random_cases(self):
        source = Random(131)
        kinds = {"none": 0, "one": 0, "some": 0, "all": 0}
        for _ in range(200):
            pool, results, quotes, book = random_case(source, 5)
            if next_of(pool, results) is None:
                continue
            low, high = limits_of(both_worths(pool, results, quotes, book)[0])
            needed = worth_of(pool, results, quotes, book)
            for more in (Fraction(0), LITTLE, -LITTLE, Fraction(source.randint(1, 3000), 100), Fraction(-1),
                         Fraction(source.randint(1, 9)), Fraction(10 ** 6), Fraction(HUGE, HUGE + 3)):
                found = self.check_safe(pool, results, quotes, book, needed + more)
                if found is None:
                    kinds["none"] += 1
                elif found == [low, high]:
                    kinds["all"] += 1
                else:
                    kinds["one" if found[0] == found[1] else "some"] += 1
            check_all_orders(self, lambda some: safe_bets(pool, results, some, book, pair_of(needed + 1)), quotes)
        self.assertGreater(min(kinds.values()), 50, kinds)

    def test_nothing_is_changed(self):
        arguments = (POOL, {1: 2}, deepcopy(FLAT), BOOK)
        before = deepcopy(arguments)
        next_bet(*arguments)
        need_with(*arguments, (1, 2))
        safe_bets(*arguments, (100, 1))
        self.assertEqual(arguments, before)


class ManyMatchesTest(BetsCase):
    def test_eight_and_nine_open_matches(self):
        source = Random(132)
        for many in (10, 16):
            pool, quotes, book = full_pool(source, many)
            for named in (0, many - 10, many - 9, many - 5, many - 1):
                results = random_results(source, parts_of(pool[0]), named)
                if many - 1 - named > 8:
                    check_too_many(self, 8, next_bet, pool, results, quotes, book)
                    check_too_many(self, 8, need_with, pool, results, quotes, book, (0, 1))
                    check_too_many(self, 8, safe_bets, pool, results, quotes, (), (0, 1))
                elif named < many - 1:
                    bet = next_bet(pool, results, quotes, book)
                    needed = worth(pool, results, quotes, book)
                    self.assertEqual(need_with(pool, results, quotes, book, bet), needed)
                    least, greatest = safe_bets(pool, results, quotes, book, needed)
                    self.assertTrue(share_of(least) <= share_of(bet) <= share_of(greatest))
                    self.assertIsNone(safe_bets(pool, results, quotes, book, pair_of(share_of(needed) - LITTLE)))
                else:
                    self.assertIsNone(next_bet(pool, results, quotes, book))

    def test_nine_sides(self):
        source = Random(133)
        pool, quotes, book = full_pool(source, 9)
        start = perf_counter()
        bet = next_bet(pool, {}, quotes, book)
        needed = need_with(pool, {}, quotes, book, bet)
        safe_bets(pool, {}, quotes, book, needed)
        self.assertLess(perf_counter() - start, 10)
        self.assertEqual(needed, pair_of(worth_of(pool, {}, quotes, book)))
        self.check_safe(pool, {}, quotes, book, share_of(needed) + 100)


if __name__ == "__main__":
    unittest.main()
