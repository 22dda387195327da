import unittest
from copy import deepcopy
from fractions import Fraction
from random import Random
from time import perf_counter

from poolhopes.scenarios import allowance, find_scenario, scenario_sum, shows_more
from poolhopes.worths import worth
from tests.brute import pair_of, parts_of
from tests.checks import check_all_orders, check_bool, check_new, check_too_many
from tests.money import (BOOK, FLAT, HUGE, LADDER, LITTLE, NO_LADDER, OWED, QUOTES, TEN, TWO, WIDE, allowance_of,
                         cost_of, courses_of, full_ladder, full_pool, large, limits_of, random_case, random_ladder,
                         random_share, share_of, sum_of, worth_of)
from tests.samples import POOL, deep, junk, random_results, twists

class AllowanceTest(unittest.TestCase):
    def check(self, ladder, share):
        found = allowance(ladder, pair_of(share))
        self.assertEqual(found, pair_of(allowance_of(ladder, share)))
        self.assertEqual([type(found)] + [type(number) for number in found], [tuple, int, int])

    def test_examples(self):
        self.assertEqual(allowance(LADDER, (4, 5)), (4, 5))

    def test_at_between_and_beyond_prices(self):
        for ladder in (LADDER, WIDE, full_ladder(2), NO_LADDER, (LADDER[0], ()), ((), LADDER[1])):
            prices = [share_of(price) for steps in ladder for price, _ in steps]
            for price in (*prices, Fraction(0), Fraction(1)):
                for more in (Fraction(0), LITTLE, -LITTLE, Fraction(1, HUGE), Fraction(-1, 100), Fraction(1, 100)):
                    if 0 <= price + more <= 1:
                        self.check(ladder, price + more)
        for share, expected in (((1, 2), (0, 1)), ((3, 5), (0, 1)), ((11, 20), (0, 1)), ((7, 10), (2, 5)),
                                ((1, 1), (14, 5)), ((0, 1), (50, 1)), ((1, 4), (25, 1))):
            self.assertEqual(allowance(LADDER, share), expected)

    def test_no_bet_is_expected_to_bring_more(self):
        source = Random(120)
        for _ in range(150):
            ladder = random_ladder(source, 6)
            share = random_share(source, source.choice((5, 100, 10 ** 30)))
            self.check(ladder, share)
            low, high = limits_of(ladder)
            brought = [share * bet - cost_of(ladder, Fraction(bet)) for bet in range(low, high + 1)]
            self.assertEqual(allowance(ladder, pair_of(share)), pair_of(max(brought)))


class ScenarioTest(unittest.TestCase):
    def check_found(self, pool, results, quotes, book):
        """Check the scenario that is told, and return it."""
        found = find_scenario(pool, results, quotes, book)
        self.assertIs(type(found), dict)
        self.assertEqual(sorted(found), sorted(courses_of(pool, results)))
        for course, chance in found.items():
            self.assertEqual([type(course), type(chance)] + [type(part) for part in course],
                             [tuple, tuple] + [int] * len(course))
            self.assertEqual(pair_of(share_of(chance)), chance)
            self.assertTrue(0 <= share_of(chance) <= 1)
        needed = worth_of(pool, results, quotes, book)
        self.assertEqual(sum_of(pool, results, quotes, book, found), needed)
        self.check_sum(pool, results, quotes, book, found)
        return found

    def check_sum(self, pool, results, quotes, book, scenario):
        """Check the sum of a scenario, and from where on it shows nothing; return the sum."""
        total = sum_of(pool, results, quotes, book, scenario)
        found = scenario_sum(pool, results, quotes, book, scenario)
        self.assertEqual(found, pair_of(total))
        self.assertEqual([type(found)] + [type(number) for number in found], [tuple, int, int])
        for money in (total, total + LITTLE, total - LITTLE, total - HUGE, total + 3):
            self.assertIs(shows_more(pool, results, quotes, book, scenario, pair_of(money)), total > money)
        return total

    def test_examples(self):
        self.assertEqual(scenario_sum(TWO, {}, QUOTES, (TEN,), {(): (4, 5)}), (36, 5))
        self.assertEqual(scenario_sum(TWO, {}, QUOTES, (TEN,), {(): (1, 2)}), (5, 1))
        self.assertIs(shows_more(TWO, {}, QUOTES, (TEN,), {(): (4, 5)}, (7, 1)), True)
        self.assertIs(shows_more(TWO, {}, QUOTES, (TEN,), {(): (4, 5)}, (36, 5)), False)

    def test_two_sides(self):
        for ladder in (LADDER, WIDE, NO_LADDER, (LADDER[0], ()), ((), LADDER[1]), full_ladder(1),
                       ((((0, 1), 5),), ()), ((((1, 1), 5),), ()), ((), (((1, 1), 5),)), ((), (((0, 1), 5),))):
            for amount in (-1000, -100, -7, -5, -4, -1, 0, 1, 4, 5, 6, 7, 10, 11, 1000):
                for thing in (TEN[0][1], ("share", 1)):
                    for results in ({}, {0: 0}, {0: 1}):
                        self.check_found(TWO, results, {(0, 1): ladder}, (((amount, thing),),))

    def test_no_match_is_open(self):
        for results in ({0: 0}, {0: 1}):
            self.assertEqual(self.check_found(TWO, results, QUOTES, (TEN, OWED, TEN)), {})
        check_bool(self, True, shows_more, TWO, {0: 0}, QUOTES, (TEN,), {}, (9, 1))
        check_bool(self, False, shows_more, TWO, {0: 0}, QUOTES, (TEN,), {}, (10, 1))
        check_bool(self, False, shows_more, TWO, {0: 0}, QUOTES, (TEN,), {(): (1, 2)}, (9, 1))

    def test_courses_that_cannot_come(self):
        # The chances there count for nothing, but they have to stand there.
        scenario = find_scenario(POOL, {}, FLAT, BOOK)
        scenario[()] = (1, 1)
        total = self.check_sum(POOL, {}, FLAT, BOOK, scenario)
        for chance in ((0, 1), (1, 1), (1, 3)):
            self.assertEqual(self.check_sum(POOL, {}, FLAT, BOOK, {**scenario, (3,): chance, (3, 1): chance}), total)
        del scenario[(3, 1)]
        check_bool(self, False, shows_more, POOL, {}, FLAT, BOOK, scenario, (-1000, 1))

    def test_random_cases(self):
        source = Random(121)
        for _ in range(120):
            pool, results, quotes, book = random_case(source, 6)
            self.check_found(pool, results, quotes, book)
            needed = worth_of(pool, results, quotes, book)
            self.assertEqual(worth(pool, results, quotes, book), pair_of(needed))
            for bottom in (1, 4, 100, 10 ** 20):
                scenario = {course: pair_of(random_share(source, bottom)) for course in courses_of(pool, results)}
                self.assertLessEqual(self.check_sum(pool, results, quotes, book, scenario), needed)
            check_all_orders(self, lambda some: find_scenario(pool, some, quotes, book), results)
            check_all_orders(self, lambda some: find_scenario(pool, results, some, book), quotes)

    def test_equal_money_for_all_endings(self):
        for amount in (-3, 0, 5):
            book = (((amount, ("hope", ((0,), (), 0))),),)
            for ladder in (LADDER, WIDE, NO_LADDER, (LADDER[0], ()), ((), LADDER[1])):
                self.check_found(POOL, {}, {pair: ladder for pair in FLAT}, book)

    def test_integers_of_sixty_and_a_thousand_digits(self):
        for chance in (Fraction(HUGE, 3 * HUGE + 1), Fraction(10 ** 59, 10 ** 60 - 1), Fraction(HUGE - 1, HUGE)):
            self.check_sum(TWO, {}, QUOTES, (TEN,), {(): pair_of(chance)})
            scenario = {course: pair_of(chance) for course in courses_of(POOL, {})}
            self.check_sum(POOL, {}, FLAT, BOOK, scenario)

    def test_new_scenarios(self):
        check_new(self, find_scenario, POOL, {1: 2}, FLAT, BOOK)
        check_new(self, find_scenario, TWO, {0: 1}, QUOTES, (TEN,))
        arguments = (POOL, {1: 2}, FLAT, BOOK, find_scenario(POOL, {1: 2}, FLAT, BOOK))
        before = deepcopy(arguments)
        scenario_sum(*arguments)
        shows_more(*arguments, (-100, 1))
        self.assertEqual(arguments, before)


class ShowsMoreTest(unittest.TestCase):
    def check(self, good, value, money=(-1000, 1)):
        check_bool(self, good, shows_more, TWO, {}, QUOTES, (TEN,), value, money)

    def test_chances(self):
        for chance in ((0, 1), (1, 1), (1, 2), (HUGE, HUGE + 1), (1, 101)):
            self.check(True, {(): chance})
        for chance in ((-1, 1), (2, 1), (-1, HUGE), (HUGE + 1, HUGE), (2, 4), (0, 2), (1, 0), (0, 0), (-1, -2), (1, -2),
                       (True, 1), (1, True), (False, 1), [1, 2], (1,), (1, 2, 3), 1, 0, None, "1/2", ("1", "2"),
                       {1: 2}, ((0, 1), (1, 1))):
            self.check(False, {(): chance})

    def test_money(self):
        self.check(True, {(): (4, 5)}, (7199999999, 1000000000))
        self.check(False, {(): (4, 5)}, (36, 5))
        self.check(False, {(): (4, 5)}, (7200000001, 1000000000))
        self.check(True, {(): (4, 5)}, (-HUGE, 7))
        self.check(False, {(): (4, 5)}, (HUGE, 7))

    def test_courses(self):
        scenario = find_scenario(POOL, {}, FLAT, BOOK)
        money = (-1000, 1)
        check_bool(self, True, shows_more, POOL, {}, FLAT, BOOK, scenario, money)
        check_all_orders(self, lambda some: shows_more(POOL, {}, FLAT, BOOK, some, money), scenario)
        check_all_orders(self, lambda some: scenario_sum(POOL, {}, FLAT, BOOK, some), scenario)
        for course in scenario:
            rest = {other: scenario[other] for other in scenario if other != course}
            check_bool(self, False, shows_more, POOL, {}, FLAT, BOOK, rest, money)
            for key in ((1, 1), (0, 3), (3, 0), (0, 1, 0), (0, 1, 2), (4,), (-1,), 0, None, "", (None,), ("0",), ((),),
                        ((0,),), (HUGE,), tuple(range(3000))):
                check_bool(self, False, shows_more, POOL, {}, FLAT, BOOK, {**rest, key: (1, 2)}, money)
                check_bool(self, False, shows_more, POOL, {}, FLAT, BOOK, {**scenario, key: (1, 2)}, money)
            for at, side in enumerate(course):
                if side in (0, 1):
                    key = (*course[:at], bool(side), *course[at + 1:])
                    check_bool(self, False, shows_more, POOL, {}, FLAT, BOOK, {**rest, key: (1, 2)}, money)
        for results in ({0: 0}, {1: 2}, {0: 3, 1: 1}):
            check_bool(self, False, shows_more, POOL, results, FLAT, BOOK, scenario, money)

    def test_other_values(self):
        for value in junk() + large() + twists({(): (4, 5)}) + [
                [(1, 2)], ((), (1, 2)), [((), (1, 2))], (1, 2), deep({(): (1, 2)}, 90, list)]:
            self.check(False, value)
        for value in junk() + large() + twists(find_scenario(POOL, {}, FLAT, BOOK)):
            check_bool(self, False, shows_more, POOL, {}, FLAT, BOOK, value, (-1000, 1))


class ManyMatchesTest(unittest.TestCase):
    def test_eight_and_nine_open_matches(self):
        source = Random(122)
        for many in (10, 16):
            pool, quotes, book = full_pool(source, many)
            for named in (0, many - 10, many - 9, many - 5, many - 1):
                results = random_results(source, parts_of(pool[0]), named)
                if many - 1 - named > 8:
                    check_too_many(self, 8, find_scenario, pool, results, quotes, ())
                    check_too_many(self, 8, scenario_sum, pool, results, quotes, book, {})
                    for value in (None, {}, [], {(): (0, 1)}, 0, {(): None}):
                        check_too_many(self, 8, shows_more, pool, results, quotes, book, value, (0, 1))
                else:
                    scenario = find_scenario(pool, results, quotes, book)
                    self.assertEqual(sorted(scenario), sorted(courses_of(pool, results)))
                    needed = worth(pool, results, quotes, book)
                    self.assertEqual(scenario_sum(pool, results, quotes, book, scenario), needed)
                    self.assertIs(shows_more(pool, results, quotes, book, scenario, needed), False)
                    less = pair_of(share_of(needed) - LITTLE)
                    self.assertIs(shows_more(pool, results, quotes, book, scenario, less), True)

    def test_nine_sides(self):
        source = Random(123)
        pool, quotes, book = full_pool(source, 9)
        start = perf_counter()
        scenario = find_scenario(pool, {}, quotes, book)
        self.assertEqual(scenario_sum(pool, {}, quotes, book, scenario), worth(pool, {}, quotes, book))
        # A chance of some hundred digits at each course.
        huge = {course: pair_of(Fraction(10 ** 200 + at, 3 * 10 ** 200 + 7 * at)) for at, course in enumerate(scenario)}
        total = scenario_sum(pool, {}, quotes, book, huge)
        self.assertIs(shows_more(pool, {}, quotes, book, huge, total), False)
        self.assertLess(perf_counter() - start, 10)
        self.assertEqual(share_of(total), sum_of(pool, {}, quotes, book, huge))
        self.assertLessEqual(share_of(total), worth_of(pool, {}, quotes, book))


if __name__ == "__main__":
    unittest.main()
