import unittest
from copy import deepcopy
from fractions import Fraction
from itertools import product
from random import Random
from time import perf_counter

from poolhopes.worths import falls_short, find_plan, secures, worth
from tests.brute import endings_of, inside_of, pair_of, parts_of
from tests.checks import check_all_orders, check_bool, check_new, check_too_many
from tests.money import (BOOK, FLAT, HUGE, LADDER, LITTLE, NO_LADDER, OWED, QUOTES, TEN, TWO, WIDE, brought_by, cost_of,
                         courses_of, exact_of, full_pool, keeps_plan, large, limits_of, missing_by_ending, next_of,
                         paid_by_book, pairs_of, random_book, random_case, random_quotes, share_of, worth_of)
from tests.samples import FIRST, POOL, deep, junk, random_pool, random_results, random_tree, twists


def bets_of(ladder, bottom):
    """Return all bets at a ladder with this bottom or less, as Fractions."""
    low, high = limits_of(ladder)
    return [Fraction(top, bottom) for top in range(low * bottom, high * bottom + 1)]


class MoneyCase(unittest.TestCase):
    def check_worth(self, pool, results, quotes, book):
        """Check the worth, and the plan that is told; return both."""
        found = worth(pool, results, quotes, book)
        self.assertEqual(found, pair_of(worth_of(pool, results, quotes, book)))
        plan = find_plan(pool, results, quotes, book)
        self.assertIs(type(plan), dict)
        self.assertTrue(keeps_plan(pool, results, quotes, plan))
        missing = missing_by_ending(pool, results, quotes, book, plan)
        self.assertEqual(pair_of(max(missing.values())), found)
        self.check_money(pool, results, quotes, book, plan)
        return found, plan

    def check_money(self, pool, results, quotes, book, plan):
        """Check what is told of a plan with just as much money as it needs, and with a little less and more."""
        missing = missing_by_ending(pool, results, quotes, book, plan)
        needed = max(missing.values())
        for money in (needed, needed + LITTLE, needed - LITTLE, needed - 7, needed + 10 ** 60, needed - HUGE):
            good = money >= needed
            self.assertIs(secures(pool, results, quotes, book, plan, pair_of(money)), good)
            found = falls_short(pool, results, quotes, book, plan, pair_of(money))
            self.assertEqual(falls_short(pool, results, quotes, book, plan, pair_of(money)), found)
            if good:
                self.assertIsNone(found)
            else:
                ending, amount = found
                self.assertEqual([type(found), type(ending), type(amount)], [tuple] * 3)
                self.assertIn(ending, missing)
                self.assertEqual(amount, pair_of(missing[ending] - money))
                self.assertGreater(amount[0], 0)


class WorthTest(MoneyCase):
    def test_examples(self):
        self.assertEqual(worth(TWO, {}, QUOTES, (TEN,)), (36, 5))
        self.assertEqual(worth(TWO, {}, QUOTES, (OWED,)), (-5, 1))
        self.assertEqual(worth(TWO, {0: 0}, QUOTES, (TEN, TEN)), (20, 1))
        self.assertEqual(worth(TWO, {}, {(0, 1): NO_LADDER}, (TEN,)), (10, 1))
        self.assertEqual(find_plan(TWO, {}, QUOTES, (TEN,)), {(): (10, 1)})
        self.assertEqual(falls_short(TWO, {}, QUOTES, (TEN,), {(): (5, 1)}, (36, 5)), ((0,), (1, 1)))

    def test_two_sides(self):
        for ladder in (LADDER, WIDE, NO_LADDER, (LADDER[0], ()), ((), LADDER[1])):
            quotes = {(0, 1): ladder}
            for book in ((), (TEN,), (OWED,), (TEN, OWED), (TEN, TEN), (OWED,) * 8, (TEN,) * 8,
                         (((1000, ("hope", ((0,), ((1,),), 1))), (-1000, ("share", 1))),)):
                for results in ({}, {0: 0}, {0: 1}):
                    self.check_worth(TWO, results, quotes, book)

    def test_no_match_is_open(self):
        for ending in endings_of(POOL, {}):
            results = dict(enumerate(ending))
            found, plan = self.check_worth(POOL, results, FLAT, BOOK)
            self.assertEqual(found, pair_of(paid_by_book(POOL, BOOK, ending)))
            self.assertEqual(plan, {})

    def test_gaps_in_the_results(self):
        for results in ({1: 2}, {1: 1}, {0: 3}, {0: 3, 1: 2}, {1: 2, 0: 0}):
            _, plan = self.check_worth(POOL, results, FLAT, BOOK)
            self.assertEqual(sorted(plan), sorted(courses_of(POOL, results)))
        self.assertEqual(sorted(find_plan(POOL, {1: 2}, FLAT, BOOK)), [(), (0,), (3,)])

    def test_books_that_pay_less_than_nothing(self):
        for amount in (-1, -7, -1000):
            for thing in (("hope", FIRST), ("share", 2), ("place", 1, 2), ("lead", (0, 1), (2,))):
                self.check_worth(POOL, {}, FLAT, (((amount, thing),),))
        self.assertEqual(worth(TWO, {}, QUOTES, (((-6, ("share", 0)), (-6, ("share", 1))),)), (-6, 1))

    def test_ladders_without_steps(self):
        quotes = {pair: NO_LADDER for pair in pairs_of(4)}
        found, plan = self.check_worth(POOL, {}, quotes, BOOK)
        self.assertEqual(found, pair_of(max([paid_by_book(POOL, BOOK, ending) for ending in endings_of(POOL, {})])))
        self.assertEqual(set(plan.values()), {(0, 1)})
        # One ladder with steps is enough for a bet on the match of these two.
        _, plan = self.check_worth(POOL, {}, {**quotes, (0, 2): WIDE}, BOOK)
        self.assertEqual({course for course in plan if plan[course] != (0, 1)}, {(0, 2)})

    def test_an_empty_book_has_no_worth(self):
        source = Random(110)
        for _ in range(20):
            pool, results, quotes, _ = random_case(source, 5)
            for book in ((), ((),), ((), ())):
                found, plan = self.check_worth(pool, results, quotes, book)
                self.assertEqual(found, (0, 1))
                self.assertLessEqual(set(plan.values()), {(0, 1)})

    def test_random_cases(self):
        source = Random(111)
        for _ in range(120):
            pool, results, quotes, book = random_case(source, 6, source.choice((3, 20, 500)))
            found, plan = self.check_worth(pool, results, quotes, book)
            # With one price for both and enough tickets, a book is worth what its contracts are worth together.
            steps = (((1, 2), 10 ** 7),)
            rich = {pair: (steps, steps) for pair in quotes}
            alone = sum([share_of(worth(pool, results, rich, (contract,))) for contract in book], Fraction(0))
            self.assertEqual(worth(pool, results, rich, book), pair_of(alone))
            check_all_orders(self, lambda some: worth(pool, results, some, book), quotes)
            check_all_orders(self, lambda some: find_plan(pool, some, quotes, book), results)
            # The plan has the exact bets.
            due = next_of(pool, results)
            if due is not None:
                at, low, high = due
                both = [worth_of(pool, {**results, at: side}, quotes, book) for side in (low, high)]
                self.assertEqual(plan[()], pair_of(exact_of(quotes[(low, high)], *both)))

    def test_no_plan_of_a_stock_does_better(self):
        source = Random(112)
        best = 0
        for _ in range(60):
            tree = random_tree(source, source.choice((2, 3, 3)))
            many = len(inside_of(tree)) + 1
            pool = random_pool(source, tree, inside_of(tree), source.randint(2, 4), 2)
            quotes = random_quotes(source, many, 1)
            book = (((source.randint(-2, 2), ("share", 0)), (source.randint(-1, 1), ("place", 1, 1))),)
            found = share_of(worth(pool, {}, quotes, book))
            sides = courses_of(pool, {})
            stocks = [bets_of(quotes[sides[course]], 2 if many == 3 else 60) for course in sides]
            least = None
            for bets in product(*stocks):
                plan = {course: pair_of(bet) for course, bet in zip(sides, bets)}
                needed = max(missing_by_ending(pool, {}, quotes, book, plan).values())
                least = needed if least is None else min(least, needed)
                if source.random() < 0.05:
                    self.check_money(pool, {}, quotes, book, plan)
            self.assertLessEqual(found, least)
            best += found == least
        # Exact bets are often among the tried ones.
        self.assertGreater(best, 30)

    def test_sixty_and_a_thousand_digits(self):
        for bet in (Fraction(10 ** 60, 10 ** 59 + 1), Fraction(HUGE, HUGE // 7 + 1), Fraction(-HUGE, HUGE + 1)):
            plan = {(): pair_of(bet)}
            self.check_money(TWO, {}, QUOTES, (TEN,), plan)
        bets = [pair_of(Fraction(HUGE - at, HUGE + at + 1)) for at in range(7)]
        plan = dict(zip(courses_of(POOL, {}), bets))
        self.assertTrue(keeps_plan(POOL, {}, FLAT, plan))
        self.check_money(POOL, {}, FLAT, BOOK, plan)

    def test_new_plans(self):
        check_new(self, find_plan, POOL, {1: 2}, FLAT, BOOK)
        check_new(self, find_plan, TWO, {0: 1}, QUOTES, (TEN,))
        arguments = (POOL, {1: 2}, FLAT, BOOK)
        before = deepcopy(arguments)
        worth(*arguments)
        plan = find_plan(*arguments)
        kept = deepcopy(plan)
        secures(*arguments, plan, (0, 1))
        falls_short(*arguments, plan, (-100, 1))
        self.assertEqual((arguments, plan), (before, kept))


class SecuresTest(MoneyCase):
    def check(self, good, value, money=(36, 5)):
        check_bool(self, good, secures, TWO, {}, QUOTES, (TEN,), value, money)

    def test_bets(self):
        self.check(True, {(): (10, 1)})
        self.check(False, {(): (10, 1)}, (7199999999, 1000000000))
        self.check(True, {(): (10, 1)}, (7200000001, 1000000000))
        self.check(True, {(): (5, 1)}, (41, 5))
        self.check(False, {(): (5, 1)}, (8, 1))
        for bet in ((0, 1), (-100, 1), (10, 1), (1, 3), (-1, HUGE), (HUGE, HUGE + 1)):
            self.check(True, {(): bet}, (1000, 1))
        for bet in ((11, 1), (-101, 1), (10 ** 9 * 10 + 1, 10 ** 9), (-10 ** 9 * 100 - 1, 10 ** 9), (HUGE, 1),
                    (-HUGE, 7), (2, 4), (0, 2), (1, 0), (-1, -1), (1, -2), (True, 1), (1, True), [1, 2], (1,),
                    (1, 2, 3), 1, None, "1", ("1", "2"), {1: 2}, ((1, 1), (1, 1))):
            self.check(False, {(): bet}, (10 ** 9, 1))

    def test_courses(self):
        plan = find_plan(POOL, {}, FLAT, BOOK)
        money = (1000, 1)
        check_bool(self, True, secures, POOL, {}, FLAT, BOOK, plan, money)
        check_all_orders(self, lambda some: secures(POOL, {}, FLAT, BOOK, some, money), plan)
        for course in plan:
            rest = {other: plan[other] for other in plan if other != course}
            check_bool(self, False, secures, POOL, {}, FLAT, BOOK, rest, money)
            for key in ((1, 1), (0, 3), (3, 0), (0, 1, 0), (0, 1, 2), (4,), (-1,), 0, None, "", "()", (None,), ("0",),
                        ((),), ((0,),), (0, (1,)), (HUGE,), tuple(range(3000))):
                check_bool(self, False, secures, POOL, {}, FLAT, BOOK, {**rest, key: (0, 1)}, money)
                check_bool(self, False, secures, POOL, {}, FLAT, BOOK, {**plan, key: (0, 1)}, money)
            for at, side in enumerate(course):
                if side in (0, 1):
                    key = (*course[:at], bool(side), *course[at + 1:])
                    check_bool(self, False, secures, POOL, {}, FLAT, BOOK, {**rest, key: (0, 1)}, money)

    def test_no_match_is_open(self):
        for value, good in (({}, True), ({(): (0, 1)}, False), ([], False), ((), False), (None, False)):
            check_bool(self, good, secures, TWO, {0: 0}, QUOTES, (TEN,), value, (10, 1))
            check_bool(self, False, secures, TWO, {0: 0}, QUOTES, (TEN,), value, (9, 1))
        self.assertIsNone(falls_short(TWO, {0: 0}, QUOTES, (TEN,), {}, (10, 1)))
        self.assertEqual(falls_short(TWO, {0: 0}, QUOTES, (TEN,), {}, (9, 1)), ((0,), (1, 1)))
        self.assertEqual(falls_short(TWO, {0: 1}, QUOTES, (TEN,), {}, (-HUGE, 3)), ((1,), (HUGE, 3)))

    def test_plans_for_other_results(self):
        for results in ({0: 0}, {0: 3}, {1: 2}, {0: 0, 1: 1}):
            plan = find_plan(POOL, results, FLAT, BOOK)
            for others in ({0: 0}, {0: 3}, {1: 2}, {0: 0, 1: 1}, {}):
                good = sorted(courses_of(POOL, others)) == sorted(plan)
                check_bool(self, good, secures, POOL, others, FLAT, BOOK, plan, (1000, 1))

    def test_other_values(self):
        plan = find_plan(POOL, {}, FLAT, BOOK)
        for value in junk() + large() + twists({(): (10, 1)}) + [
                plan, [(10, 1)], ((), (10, 1)), [((), (10, 1))], (10, 1), deep({(): (10, 1)}, 90, list)]:
            self.check(False, value, (10 ** 9, 1))
        for value in junk() + large() + twists(plan):
            check_bool(self, False, secures, POOL, {}, FLAT, BOOK, value, (10 ** 9, 1))

    def test_random_plans(self):
        source = Random(113)
        for _ in range(60):
            tree = random_tree(source, source.randint(2, 5))
            pool = random_pool(source, tree, inside_of(tree), source.randint(1, 5), 3)
            quotes = random_quotes(source, len(pool[1]) + 1, 9)
            results = random_results(source, parts_of(tree), source.choice((0, 0, 1)))
            book = random_book(source, len(pool[3]))
            plan = {}
            for course, sides in courses_of(pool, results).items():
                low, high = limits_of(quotes[sides])
                bottom = source.choice((1, 2, 3, 10 ** 20))
                plan[course] = pair_of(Fraction(source.randint(low * bottom, high * bottom), bottom))
            self.check_money(pool, results, quotes, book, plan)
            ending = source.choice(endings_of(pool, results))
            total = brought_by(pool, results, quotes, plan, ending)
            self.assertEqual(missing_by_ending(pool, results, quotes, book, plan)[ending],
                             paid_by_book(pool, book, ending) - total)

    def test_what_a_bet_brings(self):
        # Worked out by hand: 3 bought tickets cost 9/5, 4 sold ones bring 2.
        for bet, ending, brought in (((3, 1), (0,), (6, 5)), ((3, 1), (1,), (-9, 5)), ((-4, 1), (0,), (-2, 1)),
                                     ((-4, 1), (1,), (2, 1))):
            self.assertEqual(pair_of(brought_by(TWO, {}, QUOTES, {(): bet}, ending)), brought)
            owed = (((-100, ("share", 1 - ending[0])),),)
            # What is owed by the other ending makes this one the only one that counts.
            needed = pair_of(-share_of(brought))
            check_bool(self, True, secures, TWO, {}, QUOTES, owed, {(): bet}, needed)
            less = pair_of(-share_of(brought) - LITTLE)
            self.assertEqual(falls_short(TWO, {}, QUOTES, owed, {(): bet}, less), (ending, (1, 10 ** 9)))
        self.assertEqual(cost_of(LADDER, Fraction(3)), Fraction(9, 5))


class ManyMatchesTest(MoneyCase):
    def test_eight_and_nine_open_matches(self):
        source = Random(114)
        for many in (10, 16):
            pool, quotes, book = full_pool(source, many)
            for named in (0, many - 10, many - 9, many - 5, many - 1):
                results = random_results(source, parts_of(pool[0]), named)
                if many - 1 - named > 8:
                    check_too_many(self, 8, worth, pool, results, quotes, book)
                    check_too_many(self, 8, find_plan, pool, results, quotes, ())
                    check_too_many(self, 8, falls_short, pool, results, quotes, book, {}, (0, 1))
                    for value in (None, {}, [], {(): (0, 1)}, 0, {(): None}):
                        check_too_many(self, 8, secures, pool, results, quotes, book, value, (0, 1))
                else:
                    plan = find_plan(pool, results, quotes, book)
                    self.assertEqual(sorted(plan), sorted(courses_of(pool, results)))
                    found = worth(pool, results, quotes, book)
                    self.assertTrue(secures(pool, results, quotes, book, plan, found))
                    self.assertFalse(secures(pool, results, quotes, book, plan, pair_of(share_of(found) - LITTLE)))
                    self.assertIs(secures(pool, results, quotes, book, None, found), False)

    def test_nine_sides(self):
        source = Random(115)
        pool, quotes, book = full_pool(source, 9)
        start = perf_counter()
        found = worth(pool, {}, quotes, book)
        plan = find_plan(pool, {}, quotes, book)
        self.assertEqual(len(plan), 255)
        self.assertTrue(secures(pool, {}, quotes, book, plan, found))
        less = pair_of(share_of(found) - LITTLE)
        ending, amount = falls_short(pool, {}, quotes, book, plan, less)
        self.assertEqual(amount, (1, 10 ** 9))
        # A bet of a thousand digits at each course.
        sides = courses_of(pool, {})
        huge = {course: pair_of(Fraction(HUGE + 2 * at + 1, HUGE + 7 * at + 3)) for at, course in enumerate(sides)}
        lacking = falls_short(pool, {}, quotes, book, huge, found)
        self.assertIs(secures(pool, {}, quotes, book, huge, found), lacking is None)
        self.assertLess(perf_counter() - start, 10)
        self.assertEqual(found, pair_of(worth_of(pool, {}, quotes, book)))
        self.assertTrue(keeps_plan(pool, {}, quotes, plan))
        self.assertEqual(pair_of(paid_by_book(pool, book, ending) - brought_by(pool, {}, quotes, plan, ending)), found)
        self.assertEqual(lacking[1], pair_of(
            paid_by_book(pool, book, lacking[0]) - brought_by(pool, {}, quotes, huge, lacking[0]) - share_of(found)))


if __name__ == "__main__":
    unittest.main()
