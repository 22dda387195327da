import unittest
from fractions import Fraction
from random import Random

from poolhopes.quotes import are_quotes, bet_limits, cost, find_worse, is_better
from tests.brute import inside_of, pair_of
from tests.checks import check_all_orders, check_bool
from tests.money import (FLAT, HUGE, LADDER, NO_LADDER, QUOTES, TWO, WIDE, cost_of, full_ladder, is_as_good, large,
                         limits_of, pairs_of, random_ladder, random_quotes, share_of)
from tests.samples import POOL, deep, junk, random_pool, random_tree, twists

STEP = ((1, 2), 5)


def step(top, bottom=100, tickets=1):
    """Return a step with a price in lowest terms."""
    return (pair_of(Fraction(top, bottom)), tickets)


class QuotesTest(unittest.TestCase):
    def check_ladder(self, good, ladder):
        """Check a ladder, by itself and among others."""
        check_bool(self, good, are_quotes, TWO, {(0, 1): ladder})
        quotes = {pair: LADDER for pair in pairs_of(4)}
        check_bool(self, good, are_quotes, POOL, {**quotes, (1, 3): ladder})

    def check_step(self, good, value):
        """Check a step on either side."""
        self.check_ladder(good, ((value,), ()))
        self.check_ladder(good, ((), (value,)))
        self.check_ladder(False, (value, ()))
        self.check_ladder(False, value)

    def test_examples(self):
        check_bool(self, True, are_quotes, TWO, QUOTES)
        check_bool(self, False, are_quotes, TWO, {})

    def test_prices(self):
        for price in ((0, 1), (1, 1), (1, 2), (99, 100), (1, 100), (98, 99)):
            self.check_step(True, (price, 5))
        for price in ((100, 101), (1, 101), (2, 4), (0, 2), (2, 2), (50, 100), (-1, 2), (3, 2), (2, 1), (-1, 1),
                      (1, 0), (0, 0), (1, -2), (True, 1), (0, True), (False, 1), [1, 2], (1,), (1, 2, 3), 1, 0, None,
                      "1/2", ("1", "2"), ((1, 2), (1, 2)), {1: 2}, (1, HUGE), (HUGE, HUGE + 1), (HUGE, 1)):
            self.check_step(False, (price, 5))

    def test_tickets(self):
        for tickets in (1, 2, 9999999, 10000000):
            self.check_step(True, ((1, 2), tickets))
        for tickets in (0, -1, -10000000, 10000001, HUGE, True, False, None, "1", (1, 1), [1], (1,)):
            self.check_step(False, ((1, 2), tickets))

    def test_numbers_of_steps(self):
        prices = [step(top) for top in range(10, 70, 10)]
        for many in range(7):
            self.check_ladder(many <= 3, (tuple(prices[:many]), ()))
            self.check_ladder(many <= 3, ((), tuple(prices[:many][::-1])))
            self.check_ladder(3 <= many, (tuple(prices[many:]), tuple(prices[:3][::-1])))
        self.check_ladder(True, NO_LADDER)

    def test_order_of_prices(self):
        one, two, three = step(30), step(31), step(32)
        for steps, good in (((one, two), True), ((two, one), False), ((one, one), False), ((one, two, three), True),
                            ((one, three, two), False), ((one, two, two), False), ((two, one, three), False),
                            ((one, one, two), False), ((three, two, one), False)):
            self.check_ladder(good, (steps, ()))
            self.check_ladder(good, ((), steps[::-1]))
        # Fractions are compared, not their integers.
        self.check_ladder(True, ((step(1, 2), step(51, 100)), ()))
        self.check_ladder(False, ((step(49, 97), step(50, 99)), ()))
        self.check_ladder(True, ((step(50, 99), step(49, 97)), ()))

    def test_selling_beside_buying(self):
        for top, good in ((39, True), (40, True), (41, False), (0, True), (100, False)):
            self.check_ladder(good, ((step(40), step(60)), (step(top),)))
            self.check_ladder(good, ((step(40),), (step(top), step(top - 1)) if top else (step(top),)))
            # It is the greatest price of selling and the least one of buying that count.
            if top > 5:
                self.check_ladder(good, ((step(40), step(90)), (step(top), step(5))))
        self.check_ladder(False, ((step(20), step(40)), (step(30),)))
        self.check_ladder(False, ((step(40),), (step(50), step(30))))
        for ladder in (WIDE, LADDER, full_ladder(0), ((step(0),), (step(0),)), ((step(100),), (step(100),))):
            self.check_ladder(True, ladder)

    def test_pairs(self):
        quotes = {pair: LADDER for pair in pairs_of(4)}
        check_bool(self, True, are_quotes, POOL, quotes)
        for pair in pairs_of(4):
            rest = {other: LADDER for other in quotes if other != pair}
            check_bool(self, False, are_quotes, POOL, rest)
            check_bool(self, False, are_quotes, POOL, {**rest, pair[::-1]: LADDER})
            check_bool(self, False, are_quotes, POOL, {**quotes, pair[::-1]: LADDER})
            for key in ((4, 5), (0, 4), (-1, 0), (0, 0), 0, None, (), (0,), (0, 1, 2), "01", True, ("0", "1"),
                        ((0, 1), (0, 2)), (HUGE, HUGE + 1)):
                check_bool(self, False, are_quotes, POOL, {**rest, key: LADDER})
                check_bool(self, False, are_quotes, POOL, {**quotes, key: LADDER})
        for key in ((False, 1), (0, True), (False, True)):
            check_bool(self, False, are_quotes, TWO, {key: LADDER})
        rest = {pair: LADDER for pair in pairs_of(4) if pair != (1, 2)}
        check_bool(self, False, are_quotes, POOL, {**rest, (True, 2): LADDER})
        check_bool(self, False, are_quotes, TWO, quotes)
        check_bool(self, False, are_quotes, POOL, QUOTES)

    def test_all_numbers_of_sides(self):
        source = Random(100)
        for many in range(2, 17):
            tree = random_tree(source, many)
            pool = random_pool(source, tree, inside_of(tree), 1)
            check_bool(self, True, are_quotes, pool, random_quotes(source, many))
            for other in (many - 1, many + 1):
                check_bool(self, False, are_quotes, pool, random_quotes(source, other))

    def test_other_values(self):
        for value in junk() + large() + twists(QUOTES) + twists({(0, 1): WIDE}):
            check_bool(self, False, are_quotes, TWO, value)
            check_bool(self, False, are_quotes, TWO, {(0, 1): value})
            check_bool(self, value == (), are_quotes, TWO, {(0, 1): ((), value)})
            check_bool(self, False, are_quotes, TWO, {(0, 1): ((value,), ())})
        for value in junk():
            self.check_ladder(value == (), (value, value))
        for value in ([LADDER], LADDER[::-1], (*LADDER, ()), LADDER[:1], [(0, 1), LADDER], (((0, 1), LADDER),),
                      deep(LADDER, 90, tuple), deep(QUOTES, 90, list)):
            self.check_ladder(False, value)
            check_bool(self, False, are_quotes, TWO, value)


class CostTest(unittest.TestCase):
    def check(self, ladder, bet):
        found = cost(ladder, pair_of(bet))
        self.assertEqual(found, pair_of(cost_of(ladder, bet)))
        self.assertEqual([type(found)] + [type(number) for number in found], [tuple, int, int])

    def test_examples(self):
        self.assertEqual(bet_limits(LADDER), (-100, 10))
        self.assertEqual([cost(LADDER, (10, 1)), cost(LADDER, (-7, 2))], [(36, 5), (-7, 4)])

    def test_limits(self):
        self.assertEqual(bet_limits(NO_LADDER), (0, 0))
        self.assertEqual(bet_limits((LADDER[0], ())), (0, 10))
        self.assertEqual(bet_limits(((), LADDER[1])), (-100, 0))
        self.assertEqual(bet_limits(WIDE), (-24, 10000012))
        self.assertEqual([type(number) for number in bet_limits(LADDER)], [int, int])
        self.assertEqual(bet_limits(((((1, 2), 10 ** 7), ((2, 3), 10 ** 7), ((3, 4), 10 ** 7)), ())), (0, 3 * 10 ** 7))

    def test_at_and_within_steps(self):
        for bet, expected in ((Fraction(0), (0, 1)), (Fraction(4), (12, 5)), (Fraction(1, 3), (1, 5)),
                              (Fraction(9, 2), (14, 5)), (Fraction(-100), (-50, 1)), (Fraction(-1, 2), (-1, 4))):
            self.assertEqual(cost(LADDER, pair_of(bet)), expected)
        for ladder in (LADDER, WIDE, full_ladder(3), NO_LADDER):
            low, high = limits_of(ladder)
            corners = [0, low, high, *[sum(tickets for _, tickets in ladder[0][:many]) for many in (1, 2)],
                       *[-sum(tickets for _, tickets in ladder[1][:many]) for many in (1, 2)]]
            for corner in corners:
                for top, bottom in ((0, 1), (1, 3), (-1, 7), (1, HUGE), (-HUGE, HUGE + 1)):
                    more = Fraction(top, bottom)
                    if low <= corner + more <= high:
                        self.check(ladder, corner + more)

    def test_random_bets(self):
        source = Random(101)
        for _ in range(300):
            ladder = random_ladder(source, source.choice((3, 100, 10000000)))
            low, high = limits_of(ladder)
            bottom = source.choice((1, 2, 7, 100, 10 ** 60, HUGE))
            for _ in range(6):
                self.check(ladder, Fraction(source.randint(low * bottom, high * bottom), bottom))

    def test_beyond_the_limits(self):
        # Callers may go somewhat beyond: no error is raised then.
        for bet in ((11, 1), (-101, 1), (HUGE, 1), (-HUGE, 3)):
            self.assertIs(type(cost(LADDER, bet)), tuple)
            self.assertIs(type(cost(NO_LADDER, bet)), tuple)


class BetterTest(unittest.TestCase):
    def check_worse(self, quotes, others, found):
        """Check that a pair and a bet show that quotes are not better."""
        pair, bet = found
        self.assertEqual([type(part) for part in (found, pair, bet)], [tuple] * 3)
        share = share_of(bet)
        self.assertEqual(pair_of(share), bet)
        low, high = limits_of(others[pair])
        self.assertTrue(low <= share <= high)
        low, high = limits_of(quotes[pair])
        self.assertTrue(not low <= share <= high or cost_of(quotes[pair], share) > cost_of(others[pair], share))

    def check(self, good, ladder, other):
        """Check ladders as quotes for two sides, and among others for four."""
        four = {pair: LADDER for pair in pairs_of(4)}
        for pool, quotes, others in ((TWO, {(0, 1): ladder}, {(0, 1): other}),
                                     (POOL, {**four, (1, 2): ladder}, {**four, (1, 2): other})):
            check_bool(self, good, is_better, pool, quotes, others)
            found = find_worse(pool, quotes, others)
            self.assertEqual(find_worse(pool, quotes, others), found)
            if good:
                self.assertIsNone(found)
            else:
                self.check_worse(quotes, others, found)

    def test_examples(self):
        self.check(True, LADDER, ((((3, 5), 4),), ()))
        self.check(False, NO_LADDER, LADDER)

    def test_equal_ones(self):
        for ladder in (LADDER, NO_LADDER, WIDE, full_ladder(1), (LADDER[0], ()), ((), LADDER[1])):
            self.check(True, ladder, ladder)
            self.check(True, ladder, NO_LADDER)
            self.check(ladder == NO_LADDER, NO_LADDER, ladder)

    def test_more_and_fewer_tickets(self):
        for buying in ((((3, 5), 5), ((4, 5), 6)), (((3, 5), 4), ((4, 5), 7)), (((3, 5), 10),),
                       (((3, 5), 4), ((4, 5), 6), ((1, 1), 1))):
            self.check(True, (buying, LADDER[1]), LADDER)
        for buying in ((((3, 5), 4), ((4, 5), 5)), (((3, 5), 3), ((4, 5), 7)), (((3, 5), 4),), (), (((4, 5), 10),)):
            self.check(False, (buying, LADDER[1]), LADDER)
        for selling in ((((1, 2), 101),), (((1, 2), 100), ((1, 3), 1)), (((51, 100), 100),),
                        (((3, 5), 1), ((1, 2), 99))):
            self.check(True, (LADDER[0], selling), LADDER)
        for selling in ((((1, 2), 99),), (((1, 2), 99), ((1, 3), 1)), (((49, 100), 100),), (), (((1, 3), 1000),)):
            self.check(False, (LADDER[0], selling), LADDER)

    def test_the_same_steps_parted(self):
        # Fewer steps with the same tickets: what is taken first is cheaper, all together costs the same.
        even = ((((1, 2), 10),), ())
        parted = ((((2, 5), 5), ((3, 5), 5)), ())
        self.check(True, parted, even)
        self.check(False, even, parted)
        sold = ((), (((3, 5), 5), ((2, 5), 5)))
        evenly = ((), (((1, 2), 10),))
        self.check(True, sold, evenly)
        self.check(False, evenly, sold)
        # One in the middle costs more, though the corners of one ladder alone do not show it.
        self.check(False, ((((1, 2), 3), ((3, 5), 7)), ()), ((((2, 5), 1), ((3, 5), 9)), ()))
        self.check(False, ((((2, 5), 1), ((3, 5), 9)), ()), ((((1, 2), 3), ((3, 5), 7)), ()))

    def test_one_side_alone(self):
        cheaper = (((59, 100), 4), ((4, 5), 6))
        dearer = (((61, 100), 4), ((4, 5), 6))
        self.check(True, (cheaper, LADDER[1]), LADDER)
        self.check(False, (dearer, LADDER[1]), LADDER)
        self.check(False, (cheaper, (((49, 100), 100),)), LADDER)
        self.check(False, (dearer, (((51, 100), 200),)), LADDER)
        self.check(True, (cheaper, (((51, 100), 200),)), LADDER)
        self.check(False, (cheaper, ()), LADDER)
        self.check(False, ((), LADDER[1]), LADDER)
        self.check(True, ((), LADDER[1]), ((), LADDER[1]))

    def test_prices_of_nothing_and_one(self):
        self.check(True, ((((0, 1), 1),), ()), ((((0, 1), 1),), ()))
        self.check(True, ((((0, 1), 1),), ()), ((((1, 100), 1),), ()))
        self.check(False, ((((1, 100), 1),), ()), ((((0, 1), 1),), ()))
        self.check(True, ((), (((1, 1), 1),)), ((), (((99, 100), 1),)))
        self.check(False, ((), (((0, 1), 1),)), ((), (((1, 100), 1),)))
        self.check(False, ((), ()), ((), (((0, 1), 1),)))
        self.check(False, ((), ()), ((((1, 1), 1),), ()))

    def test_each_pair_counts(self):
        quotes = {pair: full_ladder(at) for at, pair in enumerate(pairs_of(4))}
        for pair in quotes:
            others = {**quotes, pair: (quotes[pair][0][:2], quotes[pair][1])}
            check_bool(self, True, is_better, POOL, quotes, others)
            check_bool(self, False, is_better, POOL, others, quotes)
            found = find_worse(POOL, others, quotes)
            self.assertEqual(found[0], pair)
            self.check_worse(others, quotes, found)
            # One pair that is better does not make up for another one.
            other = (0, 1) if pair != (0, 1) else (2, 3)
            better = {**others, other: ((((0, 1), 10 ** 7),), ())}
            self.assertIsNotNone(find_worse(POOL, better, quotes))
            self.assertIsNotNone(find_worse(POOL, quotes, better))
        check_all_orders(self, lambda some: find_worse(POOL, {**quotes, (1, 3): NO_LADDER}, some), quotes)
        check_all_orders(self, lambda some: find_worse(POOL, some, quotes), {**quotes, (1, 3): NO_LADDER})
        # Where several pairs are worse, the order of the keys does not choose.
        check_all_orders(self, lambda some: find_worse(POOL, FLAT, some), quotes)
        check_all_orders(self, lambda some: find_worse(POOL, some, quotes), FLAT)

    def test_random_ladders(self):
        source = Random(102)
        kinds = {True: 0, False: 0}
        for _ in range(1500):
            other = random_ladder(source, 5)
            ladder = self.changed(source, other)
            good = is_as_good(ladder, other)
            kinds[good] += 1
            self.check(good, ladder, other)
        self.assertGreater(min(kinds.values()), 200)

    def changed(self, source, ladder):
        """Return a ladder with a few changes to another one, or a new one."""
        if source.random() < 0.2:
            return random_ladder(source, 5)
        for _ in range(20):
            sides = [list(steps) for steps in ladder]
            for steps in sides:
                for at, (price, tickets) in enumerate(steps):
                    if source.random() < 0.4:
                        change = Fraction(source.randint(-1, 3), 100) * (-1 if steps is sides[0] else 1)
                        share = share_of(price) + change
                        steps[at] = (pair_of(share), max(1, tickets + source.randint(-1, 3)))
                if source.random() < 0.1 and steps:
                    steps.pop(source.randrange(len(steps)))
            found = (tuple(sides[0]), tuple(sides[1]))
            if are_quotes(TWO, {(0, 1): found}):
                return found
        return ladder

    def test_nothing_is_changed(self):
        quotes, others = {(0, 1): WIDE}, {(0, 1): LADDER}
        find_worse(TWO, quotes, others)
        is_better(TWO, others, quotes)
        self.assertEqual((quotes, others), ({(0, 1): WIDE}, {(0, 1): LADDER}))


if __name__ == "__main__":
    unittest.main()
