import unittest
from copy import deepcopy
from fractions import Fraction
from random import Random
from time import perf_counter

from poolhopes.errors import InvalidEvent, InvalidText, PoolhopesError, Refused, TooMany
from poolhopes.houseerrors import Unsecured
from poolhopes.houses import House
from tests.brute import endings_of, inside_of, pair_of, parts_of
from tests.checks import holders
from tests.money import (BOOK, FLAT, HUGE, LADDER, LITTLE, NO_LADDER, OWED, QUOTES, TEN, TWO, WIDE, full_pool, large,
                         pairs_of, random_contract, random_quotes, share_of)
from tests.record import Record, check_plan, check_scenario, check_told, worth_at
from tests.samples import POOL, deep, junk, random_pool, random_tree, twists

NAMES = {"sell": "sell", "buy back": "buy_back", "put in": "put_in", "take out": "take_out", "better": "better",
         "result": "result", "pay out": "pay_out"}
# Better than the quotes of the examples, at both sides.
BETTER = {(0, 1): ((((1, 2), 5), ((4, 5), 6)), (((1, 2), 101),))}


def house_with(pool, quotes, money, *events):
    """Return a house at which these events were made."""
    house = House(pool, quotes, money)
    for name, *arguments in events:
        getattr(house, NAMES[name])(*arguments)
    return house


class HouseCase(unittest.TestCase):
    def start(self, pool, quotes, money, *events):
        """Return a house and the record of it, with these events."""
        house, record = House(pool, quotes, money), Record(pool, quotes, money)
        for event in events:
            self.made(house, record, event)
        return house, record

    def call(self, house, event):
        """Call the method for an event."""
        return getattr(house, NAMES[event[0]])(*event[1:])

    def made(self, house, record, event):
        """Check that an event is accepted."""
        state = record.after(event)
        kind, plan = house.judge(event)
        self.assertEqual(kind, "plan")
        check_plan(self, record.pool, state, plan)
        given = deepcopy(event)
        found = self.call(house, event)
        self.assertEqual(event, given)
        if event[0] == "sell":
            self.assertEqual((type(found), found), (int, record.state()[4]))
        else:
            self.assertIsNone(found)
        record.make(given)
        check_told(self, house, record)

    def no_event(self, house, record, event):
        """Check that an event is none now."""
        given = deepcopy(event)
        self.assertIsNone(house.judge(event))
        with self.assertRaises(InvalidEvent) as caught:
            self.call(house, event)
        self.assertIs(type(caught.exception), InvalidEvent)
        self.assertEqual(caught.exception.event, given)
        self.assertEqual([type(part) for part in caught.exception.event], [type(part) for part in given])
        self.assertEqual(event, given)
        check_told(self, house, record)

    def refused(self, house, record, event):
        """Check that an event is refused for want of money."""
        state = record.after(event)
        kind, scenario = house.judge(event)
        self.assertEqual(kind, "scenario")
        check_scenario(self, record.pool, state, scenario)
        with self.assertRaises(Unsecured) as caught:
            self.call(house, event)
        self.assertIs(type(caught.exception), Unsecured)
        check_scenario(self, record.pool, state, caught.exception.scenario)
        self.assertEqual(caught.exception.scenario, scenario)
        check_told(self, house, record)

    def undone(self, house, record):
        """Check that the last event is taken back."""
        event = record.undo()
        found = house.undo()
        self.assertEqual(found, event)
        self.assertIs(type(found), tuple)
        check_told(self, house, record)
        return found


class ErrorTest(unittest.TestCase):
    def test_unsecured(self):
        self.assertEqual(Unsecured.__bases__, (PoolhopesError,))
        for other in (InvalidEvent, Refused, TooMany, InvalidText):
            self.assertFalse(issubclass(Unsecured, other))
            self.assertFalse(issubclass(other, Unsecured))
        self.assertTrue(issubclass(Unsecured, ValueError))
        for scenario in ({}, {(): (1, 2)}, None):
            self.assertEqual(Unsecured(scenario).scenario, scenario)


class EventTest(HouseCase):
    def test_examples(self):
        house = House(TWO, QUOTES, (0, 1))
        self.assertEqual(house.sell(TEN, (36, 5)), 0)
        self.assertEqual((house.worth(), house.next_bet()), ((36, 5), (10, 1)))
        self.assertEqual(house.judge(("take out", (1, 10)))[0], "scenario")
        self.assertIsNone(house.result(0))
        self.assertEqual(house.money(), (10, 1))
        self.assertIsNone(house.pay_out())
        self.assertEqual((house.money(), house.contracts()), ((0, 1), {}))
        self.assertEqual(house.undo(), ("pay out",))
        self.assertEqual(house.contracts(), {0: TEN})
        with self.assertRaises(InvalidEvent) as caught:
            house.put_in((0, 1))
        self.assertEqual(caught.exception.event, ("put in", (0, 1)))

    def test_a_new_house(self):
        house, record = self.start(POOL, FLAT, (7, 3))
        check_told(self, house, record)
        self.assertEqual((house.results(), house.contracts(), house.money()), ({}, {}, (7, 3)))
        self.assertEqual((house.worth(), house.next_bet()), ((0, 1), (0, 1)))
        self.assertIsNone(house.undo())

    def test_sales_at_the_edge(self):
        for money in (Fraction(0), Fraction(3), Fraction(10 ** 60, 7)):
            for contract in (TEN, OWED, (), TEN + OWED, TEN * 6):
                house, record = self.start(TWO, QUOTES, pair_of(money))
                state = record.after(("sell", contract, (0, 1)))
                edge = worth_at(TWO, state) - money
                self.refused(house, record, ("sell", contract, pair_of(edge - LITTLE)))
                self.refused(house, record, ("sell", contract, pair_of(edge - HUGE)))
                self.made(house, record, ("sell", contract, pair_of(edge)))
                self.refused(house, record, ("take out", pair_of(LITTLE)))
                self.undone(house, record)
                self.made(house, record, ("sell", contract, pair_of(edge + LITTLE)))
                self.made(house, record, ("take out", pair_of(LITTLE)))

    def test_prices_below_nothing(self):
        house, record = self.start(TWO, QUOTES, (0, 1))
        # Who owes the house ten if side 0 wins is paid for it.
        self.made(house, record, ("sell", OWED, (-5, 1)))
        self.refused(house, record, ("sell", OWED, (-5000000001, 10 ** 9)))
        self.assertEqual((house.money(), house.worth()), ((-5, 1), (-5, 1)))
        self.made(house, record, ("buy back", 0, (-5, 1)))
        self.assertEqual(house.money(), (0, 1))

    def test_any_values_for_a_sale(self):
        house, record = self.start(POOL, FLAT, (100, 1))
        for contract in junk() + large() + twists(BOOK[0]) + [[TEN], (TEN,), None, ((1001, ("share", 0)),), TEN * 7,
                                                             ((1, ("share", 3)),), ((1, ("place", 0, 4)),)]:
            if contract != ():
                with self.assertRaises(InvalidEvent) as caught:
                    house.sell(contract, (0, 1))
                self.assertEqual(caught.exception.event, ("sell", contract, (0, 1)))
        for price in junk() + [(2, 4), (0, 2), (1, 0), (1, -1), (True, 1), (1, True), [1, 1], (1,), (1, 2, 3)]:
            with self.assertRaises(InvalidEvent) as caught:
                house.sell(TEN, price)
            self.assertEqual(caught.exception.event, ("sell", TEN, price))
        for contract, price in ((None, None), (TEN, None), ((TEN,), (1, 1))):
            self.no_event(house, record, ("sell", contract, price))
        self.made(house, record, ("sell", (), (0, 1)))
        self.made(house, record, ("sell", TEN, (HUGE, HUGE + 1)))

    def test_eight_contracts_and_a_ninth(self):
        house, record = self.start(TWO, QUOTES, (100, 1))
        for number in range(8):
            self.made(house, record, ("sell", ((number, TEN[0][1]),), (number, 1)))
        for contract, price in ((TEN, (10, 1)), ((), (0, 1)), (TEN, (-10, 1)), (TEN, (-HUGE, 1))):
            self.no_event(house, record, ("sell", contract, price))
        self.made(house, record, ("buy back", 3, (1, 1)))
        self.made(house, record, ("sell", TEN, (10, 1)))
        self.assertEqual(sorted(house.contracts()), [0, 1, 2, 4, 5, 6, 7, 8])
        self.no_event(house, record, ("sell", (), (0, 1)))
        self.undone(house, record)
        self.undone(house, record)
        self.no_event(house, record, ("sell", TEN, (10, 1)))
        self.made(house, record, ("result", 1))
        self.no_event(house, record, ("sell", (), (0, 1)))
        self.made(house, record, ("pay out",))
        # Now there is room for eight again, with the numbers that come next.
        for number in range(8, 16):
            self.made(house, record, ("sell", OWED, (1, 7)))
        self.no_event(house, record, ("sell", (), (0, 1)))

    def test_numbers_are_not_used_again(self):
        house, record = self.start(TWO, QUOTES, (100, 1), ("sell", TEN, (1, 1)), ("sell", OWED, (1, 1)))
        self.made(house, record, ("buy back", 1, (1, 1)))
        self.made(house, record, ("sell", (), (1, 1)))
        self.assertEqual(house.contracts(), {0: TEN, 2: ()})
        self.made(house, record, ("buy back", 2, (1, 1)))
        self.made(house, record, ("buy back", 0, (1, 1)))
        self.made(house, record, ("sell", OWED, (1, 1)))
        self.assertEqual(house.contracts(), {3: OWED})
        # But one that was taken back is.
        self.undone(house, record)
        self.made(house, record, ("sell", TEN, (9, 1)))
        self.assertEqual(house.contracts(), {3: TEN})
        # What is refused uses none up.
        self.refused(house, record, ("sell", TEN * 6, (-200, 1)))
        self.no_event(house, record, ("sell", None, (1, 1)))
        self.made(house, record, ("sell", (), (1, 1)))
        self.assertEqual(house.contracts(), {3: TEN, 4: ()})

    def test_buying_back(self):
        house, record = self.start(TWO, QUOTES, (0, 1), ("sell", TEN, (8, 1)), ("sell", TEN, (10, 1)))
        for number in (2, -1, HUGE, -HUGE, True, False, None, "0", (0,), [0], {}, {0: TEN}, deep(0, 90, list)):
            self.no_event(house, record, ("buy back", number, (0, 1)))
        for price in ((2, 4), (1, 0), None, 1, (True, 1), [1, 1], "1", (1,), {}, (1, 2, 3)):
            self.no_event(house, record, ("buy back", 0, price))
            self.no_event(house, record, ("buy back", 2, price))
        # The money is 18, and one of the two alone is worth 36/5.
        self.refused(house, record, ("buy back", 0, (10800000001, 10 ** 9)))
        self.made(house, record, ("buy back", 0, (54, 5)))
        self.refused(house, record, ("take out", pair_of(LITTLE)))
        self.no_event(house, record, ("buy back", 0, (0, 1)))
        self.undone(house, record)
        self.made(house, record, ("buy back", 1, (-3, 7)))
        self.made(house, record, ("buy back", 0, (0, 1)))
        for number in (0, 1, 2):
            self.no_event(house, record, ("buy back", number, (0, 1)))
        self.assertEqual(house.contracts(), {})

    def test_buying_back_what_the_house_is_owed(self):
        house, record = self.start(TWO, QUOTES, (0, 1), ("sell", OWED, (-5, 1)))
        self.refused(house, record, ("buy back", 0, (-4999999999, 10 ** 9)))
        self.refused(house, record, ("buy back", 0, (0, 1)))
        self.made(house, record, ("buy back", 0, (-5, 1)))

    def test_a_number_taken_back_is_no_number(self):
        house, record = self.start(TWO, QUOTES, (50, 1), ("sell", TEN, (8, 1)))
        self.undone(house, record)
        self.no_event(house, record, ("buy back", 0, (0, 1)))

    def test_putting_in_and_taking_out(self):
        house, record = self.start(TWO, QUOTES, (1, 3), ("sell", TEN, (10, 1)))
        bad = [(0, 1), (-1, 1), (-1, HUGE), (2, 4), (0, 2), (1, 0), (1, -1), (-1, -1), (True, 1), (1, True), 1, 0, None,
               "1", [1, 1], (1,), (1, 2, 3), ((1, 1),), {1: 1}, {}]
        for name in ("put in", "take out"):
            for amount in bad:
                self.no_event(house, record, (name, amount))
            for amount in junk() + large():
                with self.assertRaises(InvalidEvent) as caught:
                    self.call(house, (name, amount))
                self.assertEqual(caught.exception.event, (name, amount))
        self.refused(house, record, ("take out", pair_of(Fraction(47, 15) + LITTLE)))
        self.made(house, record, ("take out", (47, 15)))
        self.refused(house, record, ("take out", (1, HUGE)))
        self.made(house, record, ("put in", (1, HUGE)))
        self.refused(house, record, ("take out", (1, HUGE - 1)))
        self.made(house, record, ("take out", (1, HUGE)))
        self.made(house, record, ("put in", (HUGE, 1)))
        self.made(house, record, ("take out", (HUGE, 1)))
        self.refused(house, record, ("take out", (HUGE, 1)))

    def test_better_quotes(self):
        house, record = self.start(TWO, QUOTES, (0, 1), ("sell", TEN, (36, 5)))
        for quotes in ({(0, 1): NO_LADDER}, {(0, 1): (LADDER[0], ())}, {(0, 1): ((), LADDER[1])},
                       {(0, 1): (LADDER[0][:1], LADDER[1])}, {(0, 1): ((((61, 100), 4), ((4, 5), 7)), LADDER[1])},
                       {(0, 1): (LADDER[0], (((1, 2), 99),))}, {(0, 1): WIDE}):
            self.no_event(house, record, ("better", quotes))
        for quotes in ({}, {(1, 0): LADDER}, {(0, 1): LADDER, (0, 2): LADDER}, {(False, True): LADDER}, FLAT, None, [],
                       LADDER, (), {(0, 1): [LADDER[0], LADDER[1]]}, {(0, 1): None}, [QUOTES], "quotes", 1):
            self.no_event(house, record, ("better", quotes))
        for quotes in junk() + large() + twists(QUOTES):
            with self.assertRaises(InvalidEvent) as caught:
                house.better(quotes)
            self.assertEqual(caught.exception.event, ("better", quotes))
        self.made(house, record, ("better", QUOTES))
        self.made(house, record, ("better", BETTER))
        self.assertEqual((house.worth(), house.quotes()), ((13, 2), BETTER))
        self.no_event(house, record, ("better", QUOTES))
        self.made(house, record, ("take out", (7, 10)))
        self.undone(house, record)
        self.undone(house, record)
        self.assertEqual(house.quotes(), QUOTES)
        self.refused(house, record, ("take out", (7, 10)))
        self.made(house, record, ("result", 0))
        self.made(house, record, ("better", BETTER))

    def test_one_worse_pair_is_enough(self):
        house, record = self.start(POOL, FLAT, (0, 1))
        cheap = ((((1, 2), 10 ** 7),), LADDER[1])
        for pair in pairs_of(4):
            quotes = {other: cheap for other in pairs_of(4)}
            quotes[pair] = NO_LADDER
            self.no_event(house, record, ("better", quotes))
        self.made(house, record, ("better", {pair: cheap if pair == (1, 2) else LADDER for pair in pairs_of(4)[::-1]}))

    def test_results(self):
        house, record = self.start(POOL, FLAT, (40, 1), ("sell", BOOK[0], (5, 1)), ("sell", BOOK[1], (-2, 1)))
        bad = [-1, 4, HUGE, True, False, None, "0", (0,), [0], {}, {0: 0}, deep(0, 90, tuple)]
        for side in (*bad, 1, 2):
            self.no_event(house, record, ("result", side))
        self.made(house, record, ("result", 3))
        for side in (*bad, 0, 3):
            self.no_event(house, record, ("result", side))
        self.made(house, record, ("result", 1))
        for side in (*bad, 0, 2):
            self.no_event(house, record, ("result", side))
        self.made(house, record, ("result", 3))
        for side in (*bad, 0, 1, 2, 3):
            self.no_event(house, record, ("result", side))
        self.assertEqual(house.results(), {0: 3, 1: 1, 2: 3})
        self.made(house, record, ("pay out",))

    def test_the_exact_bet_settles(self):
        # 10 tickets are bought for 36/5, or 10 sold for 5.
        for contract, money, side, left in ((TEN, (36, 5), 0, (10, 1)), (TEN, (36, 5), 1, (0, 1)),
                                            (OWED, (-5, 1), 0, (-10, 1)), (OWED, (-5, 1), 1, (0, 1))):
            house, record = self.start(TWO, QUOTES, (0, 1), ("sell", contract, money))
            self.made(house, record, ("result", side))
            self.assertEqual(house.money(), left)
            self.made(house, record, ("pay out",))
            self.assertEqual(house.money(), (0, 1))

    def test_bools_that_are_equal_to_sides(self):
        house, record = self.start(TWO, QUOTES, (0, 1))
        for side in (True, False):
            self.no_event(house, record, ("result", side))
        for number in (False, True):
            self.made(house, record, ("sell", (), (1, 1)))
            self.no_event(house, record, ("buy back", number, (1, 1)))

    def test_paying_out(self):
        house, record = self.start(TWO, QUOTES, (0, 1))
        self.no_event(house, record, ("pay out",))
        self.made(house, record, ("sell", TEN, (10, 1)))
        self.no_event(house, record, ("pay out",))
        self.made(house, record, ("result", 0))
        self.made(house, record, ("pay out",))
        self.assertEqual(house.contracts(), {})
        # There is nothing left, but it is still an event.
        self.made(house, record, ("pay out",))
        self.assertEqual(house.undo(), ("pay out",))
        self.assertEqual(house.undo(), ("pay out",))
        self.assertEqual(house.contracts(), {0: TEN})

    def test_paying_out_what_is_owed_to_the_house(self):
        house, record = self.start(TWO, QUOTES, (0, 1), ("sell", OWED, (-5, 1)), ("result", 0))
        self.assertEqual((house.money(), house.worth()), ((-10, 1), (-10, 1)))
        self.made(house, record, ("pay out",))
        self.assertEqual(house.money(), (0, 1))

    def test_a_house_without_contracts(self):
        house, record = self.start(POOL, FLAT, (0, 1))
        self.refused(house, record, ("take out", (1, HUGE)))
        for side in (3, 2, 2):
            self.made(house, record, ("result", side))
            self.assertEqual((house.money(), house.worth()), ((0, 1), (0, 1)))
        self.refused(house, record, ("take out", pair_of(LITTLE)))
        self.made(house, record, ("pay out",))
        self.made(house, record, ("sell", TEN, (0, 1)))
        self.made(house, record, ("pay out",))

    def test_sales_when_no_match_is_open(self):
        house, record = self.start(TWO, QUOTES, (0, 1), ("result", 0))
        self.refused(house, record, ("sell", TEN, (9999999999, 10 ** 9)))
        self.assertEqual(house.judge(("sell", TEN, (9, 1))), ("scenario", {}))
        self.assertEqual(house.judge(("sell", TEN, (10, 1))), ("plan", {}))
        self.made(house, record, ("sell", TEN, (10, 1)))
        self.refused(house, record, ("buy back", 0, (11, 1)))
        self.made(house, record, ("buy back", 0, (10, 1)))


class JudgeTest(HouseCase):
    def test_values_that_are_no_events(self):
        house, record = self.start(POOL, FLAT, (40, 1), ("sell", BOOK[0], (5, 1)))
        values = junk() + large() + [
            ("sell",), ("sell", TEN), ("sell", TEN, (1, 1), 0), ("buy back", 0), ("buy back",), ("put in",),
            ("put in", 1, 1),
            ("take out",), ("better",), ("better", FLAT, FLAT), ("result",), ("result", 0, 3), ("pay out", None),
            ("pay out",), ["put in", (1, 1)], ("Put in", (1, 1)), ("put_in", (1, 1)), ("undo",), ("", (1, 1)),
            ("open", FLAT, (1, 1)), ("claim", TEN), (None, (1, 1)), (["put in"], (1, 1)), (("put in",), (1, 1)),
            ({}, (1, 1)), (1, (1, 1)), (True,), ("put in", ["1", "1"]), {"put in": (1, 1)}, "put in",
            (("put in", (1, 1)),), [("put in", (1, 1))], ("result", None), ("result", "3"), house, (house,),
            ("better", house), ("sell", house, (1, 1)), ("put in", house), (house, (1, 1)),
            deep(("put in", (1, 1)), 90, tuple)]
        for value in values:
            self.assertIsNone(house.judge(value))
        for event in (("sell", BOOK[0], (5, 1)), ("buy back", 0, (1, 1)), ("put in", (1, 2)), ("better", FLAT),
                      ("result", 3)):
            self.assertIsNotNone(house.judge(event))
            for value in twists(event):
                self.assertIsNone(house.judge(value))
        check_told(self, house, record)

    def test_plans_for_all_kinds(self):
        house, record = self.start(POOL, FLAT, (40, 1), ("sell", BOOK[0], (5, 1)), ("result", 0))
        for event in (("sell", TEN, (36, 5)), ("buy back", 0, (-2, 3)), ("put in", (1, 3)), ("take out", (1, 3)),
                      ("better", FLAT), ("result", 1), ("result", 2)):
            kind, plan = house.judge(event)
            self.assertEqual(kind, "plan")
            check_plan(self, POOL, record.after(event), plan)
            check_told(self, house, record)
            self.assertEqual(house.judge(event), (kind, plan))
        for event in (("sell", TEN, (-100, 1)), ("buy back", 0, (100, 1)), ("take out", (100, 1))):
            found = house.judge(event)
            self.assertIs(type(found), tuple)
            self.assertEqual(found[0], "scenario")
            check_scenario(self, POOL, record.after(event), found[1])
            check_told(self, house, record)
            self.assertEqual(house.judge(event), found)


class EqualTest(HouseCase):
    def check_equal(self, one, other, equal):
        self.assertIs(one == other, equal)
        self.assertIs(other == one, equal)
        self.assertIs(one != other, not equal)

    def test_houses_that_differ_in_one_event(self):
        sale, payment, result = ("sell", TEN, (10, 1)), ("put in", (1, 1)), ("result", 0)
        houses = [house_with(TWO, QUOTES, (9, 1), *events) for events in (
            (), (sale,), (payment,), (result,), (sale, payment), (payment, sale), (sale, result), (result, sale),
            (sale, sale), (("sell", TEN, (11, 1)),), (("sell", OWED, (10, 1)),), (("put in", (2, 1)),),
            (("take out", (1, 1)),), (("result", 1),), (("better", QUOTES),), (("better", BETTER),),
            (sale, ("buy back", 0, (10, 1))),
            (sale, ("buy back", 0, (9, 1))), (result, ("pay out",)), (payment, ("take out", (1, 1))),
            (payment, payment), (("sell", (), (1, 1)),))]
        for at, one in enumerate(houses):
            for where, other in enumerate(houses):
                self.check_equal(one, other, at == where)

    def test_other_beginnings(self):
        sale = ("sell", TEN, (10, 1))
        other_pool = (*TWO[:3], ((0,), (0,)))
        for pool, quotes, money in ((other_pool, QUOTES, (9, 1)), (TWO, BETTER, (9, 1)), (TWO, QUOTES, (10, 1))):
            for events in ((), (sale,)):
                house = house_with(pool, quotes, money, *events)
                self.check_equal(house_with(TWO, QUOTES, (9, 1), *events), house, False)
                self.check_equal(house_with(deepcopy(pool), deepcopy(quotes), money, *events), house, True)
        # What is there in the end may be the same, without the houses being equal.
        self.check_equal(house_with(TWO, QUOTES, (9, 1), ("put in", (1, 1))), House(TWO, QUOTES, (10, 1)), False)
        self.check_equal(house_with(TWO, QUOTES, (9, 1), ("better", BETTER)), House(TWO, BETTER, (9, 1)), False)

    def test_the_order_of_quotes_means_nothing(self):
        turned = {pair: FLAT[pair] for pair in list(FLAT)[::-1]}
        self.check_equal(House(POOL, FLAT, (0, 1)), House(POOL, turned, (0, 1)), True)
        self.check_equal(house_with(POOL, FLAT, (0, 1), ("better", FLAT)),
                         house_with(POOL, turned, (0, 1), ("better", turned)), True)

    def test_the_same_events_made_on_other_ways(self):
        straight = house_with(TWO, QUOTES, (9, 1), ("sell", TEN, (10, 1)), ("better", BETTER))
        house = House(deepcopy(TWO), deepcopy(QUOTES), (9, 1))
        house.undo()
        house.put_in((3, 1))
        with self.assertRaises(InvalidEvent):
            house.pay_out()
        house.undo()
        with self.assertRaises(Unsecured):
            house.take_out((10, 1))
        house.sell(OWED, (-1, 1))
        house.result(0)
        house.undo()
        house.undo()
        house.sell(deepcopy(TEN), (10, 1))
        self.check_equal(house, straight, False)
        house.better(deepcopy(BETTER))
        self.check_equal(house, straight, True)
        house.judge(("put in", (1, 1)))
        house.worth()
        house.next_bet()
        house.contracts().clear()
        house.quotes().clear()
        house.results()[0] = 1
        self.check_equal(house, straight, True)
        for event in (("put in", (1, 1)), ("take out", (90, 1)), ("result", 1), None):
            self.assertEqual(house.judge(event), straight.judge(event))
        house.undo()
        self.check_equal(house, straight, False)

    def test_a_value_that_is_no_house(self):
        house = house_with(TWO, QUOTES, (9, 1), ("sell", TEN, (10, 1)))
        for value in junk() + [TWO, QUOTES, house.contracts(), house.money(), [house], (house,), House]:
            self.assertIs(house == value, False)
            self.assertIs(house != value, True)
            self.assertIs(value == house, False)
        self.check_equal(house, house, True)


class ToldTest(HouseCase):
    def test_what_was_told_stays_as_it_is(self):
        house = house_with(TWO, QUOTES, (9, 1), ("sell", TEN, (10, 1)))
        told = (house.results(), house.contracts(), house.quotes(), house.judge(("put in", (1, 1))),
                house.judge(("take out", (19, 1))))
        kept = deepcopy(told)
        house.better(BETTER)
        house.sell(OWED, (0, 1))
        house.result(0)
        house.pay_out()
        self.assertEqual(told, kept)
        for _ in range(6):
            house.undo()
        self.assertEqual(told, kept)

    def test_changing_what_was_told_changes_nothing(self):
        house, record = self.start(TWO, QUOTES, (9, 1), ("sell", TEN, (10, 1)), ("better", BETTER))
        for call in (house.results, house.contracts, house.quotes):
            told = [call(), call()]
            self.assertIsNot(told[0], told[1])
            told[0].clear()
            told[0][5] = 5
            check_told(self, house, record)
        for event in (("put in", (1, 1)), ("take out", (19, 1)), ("better", BETTER), ("result", 1)):
            kind, shown = house.judge(event)
            kept = dict(shown)
            shown.clear()
            shown[5] = 5
            self.assertEqual(house.judge(event), (kind, kept))
            check_told(self, house, record)
        with self.assertRaises(Unsecured) as caught:
            house.take_out((19, 1))
        caught.exception.scenario.clear()
        with self.assertRaises(Unsecured) as again:
            house.take_out((19, 1))
        self.assertEqual(sorted(again.exception.scenario), [()])
        check_told(self, house, record)

    def test_an_event_that_was_taken_back_is_new(self):
        house, record = self.start(TWO, QUOTES, (9, 1), ("better", BETTER))
        quotes = house.quotes()
        event = self.undone(house, record)
        event[1].clear()
        self.assertEqual(quotes, BETTER)
        self.made(house, record, ("better", BETTER))
        self.assertEqual(house.quotes(), BETTER)
        self.assertEqual(house.undo(), ("better", BETTER))

    def test_changing_what_was_handed_in_changes_nothing(self):
        first, better = dict(QUOTES), dict(BETTER)
        house, record = House(TWO, first, (9, 1)), Record(TWO, QUOTES, (9, 1))
        first.clear()
        check_told(self, house, record)
        house.better(better)
        record.make(("better", BETTER))
        better.clear()
        better[(0, 1)] = NO_LADDER
        check_told(self, house, record)
        self.assertEqual(house, house_with(TWO, QUOTES, (9, 1), ("better", BETTER)))
        self.assertEqual(house.undo(), ("better", BETTER))
        bad = {(0, 1): NO_LADDER}
        self.no_event(house, self.start(TWO, QUOTES, (9, 1))[1], ("better", bad))
        bad.clear()
        self.assertEqual(house, House(TWO, QUOTES, (9, 1)))

    def test_houses_keep_apart(self):
        one, other = House(TWO, QUOTES, (9, 1)), House(TWO, QUOTES, (9, 1))
        one.sell(TEN, (10, 1))
        other.result(0)
        self.assertEqual((one.results(), one.contracts(), one.money()), ({}, {0: TEN}, (19, 1)))
        self.assertEqual((other.results(), other.contracts(), other.money()), ({0: 0}, {}, (9, 1)))

    def test_two_dicts_are_never_one(self):
        house = house_with(POOL, FLAT, (90, 1), ("better", FLAT), ("sell", BOOK[0], (1, 1)), ("result", 0))
        told = [house.results(), house.results(), house.contracts(), house.contracts(), house.quotes(), house.quotes(),
                house.judge(("put in", (1, 1))), house.judge(("put in", (1, 1))), house.judge(("result", 1)),
                house.undo(), house.undo(), house.undo()]
        inner = [id(holder) for holder in holders(told)]
        self.assertEqual(len(inner), len(set(inner)))
        self.assertNotIn(id(FLAT), inner)


class RowsTest(HouseCase):
    def test_all_rows_of_results(self):
        source = Random(140)
        for _ in range(25):
            tree = random_tree(source, source.randint(2, 5))
            pool = random_pool(source, tree, inside_of(tree), source.randint(1, 5), 3)
            quotes = random_quotes(source, len(pool[1]) + 1, 9)
            house = House(pool, quotes, (0, 1))
            for _ in range(source.randint(1, 4)):
                contract = random_contract(source, len(pool[3]))
                money = share_of(house.money())
                # The price is just what the contract makes the book worth more.
                kind, _ = house.judge(("sell", contract, (10 ** 6, 1)))
                self.assertEqual(kind, "plan")
                house.sell(contract, (10 ** 6, 1))
                price = share_of(house.worth()) - money
                house.undo()
                with self.assertRaises(Unsecured):
                    house.sell(contract, pair_of(price - LITTLE))
                house.sell(contract, pair_of(price))
                self.assertEqual(house.money(), house.worth())
            for ending in endings_of(pool, {}):
                for side in ending:
                    self.assertIsNone(house.result(side))
                    self.assertGreaterEqual(share_of(house.money()), share_of(house.worth()))
                self.assertIsNone(house.pay_out())
                self.assertGreaterEqual(house.money()[0], 0)
                self.assertEqual((house.contracts(), house.results()), ({}, dict(enumerate(ending))))
                for _ in range(len(ending) + 1):
                    house.undo()


class RandomTest(HouseCase):
    def some_event(self, source, record):
        """Return an event that may come, or may not."""
        results, contracts, money, quotes, sales = record.state()
        name = source.choice(("sell", "sell", "buy back", "put in", "take out", "better", "result", "pay out"))
        if name == "sell":
            contract = random_contract(source, len(record.pool[3]))
            if len(contracts) >= 8:
                return (name, contract, (1000, 1))
            edge = worth_at(record.pool, record.after((name, contract, (0, 1)))) - money
            return (name, contract, pair_of(edge + source.choice((0, LITTLE, -LITTLE, 5, 40))))
        if name == "buy back":
            number = source.randint(0, max(sales, 1))
            if number not in contracts:
                return (name, number, (0, 1))
            edge = money - worth_at(record.pool, record.after((name, number, (0, 1))))
            return (name, number, pair_of(edge + source.choice((0, LITTLE, -LITTLE, -5))))
        if name in ("put in", "take out"):
            edge = money - worth_at(record.pool, record.state()) if name == "take out" else Fraction(1)
            return (name, pair_of(edge * source.choice((0, 1, 1, Fraction(1, 3), 1 + LITTLE))))
        if name == "better":
            pair = source.choice(sorted(quotes))
            buying, selling = quotes[pair]
            more = tuple([(price, tickets + 1) for price, tickets in buying])
            return (name, {**quotes, pair: (source.choice((buying, more, ())), selling)})
        if name == "result":
            return (name, source.choice((*(record.due() or (0, 0, 0))[1:], -1)))
        return ("pay out",)

    def test_random_events(self):
        source = Random(141)
        kinds = {}
        for _ in range(30):
            tree = random_tree(source, source.randint(2, 4))
            pool = random_pool(source, tree, inside_of(tree), source.randint(1, 5), 5)
            quotes = random_quotes(source, len(pool[1]) + 1, 9)
            money = source.choice(((0, 1), (7, 2), (50, 1)))
            house, record = self.start(pool, quotes, money)
            for _ in range(45):
                if record.events and source.random() < 0.15:
                    self.undone(house, record)
                    kinds["undo"] = kinds.get("undo", 0) + 1
                    continue
                event = self.some_event(source, record)
                kind = "none"
                if not record.can_come(event):
                    self.no_event(house, record, event)
                elif record.after(event)[2] < worth_at(pool, record.after(event)):
                    kind = "refused"
                    self.refused(house, record, event)
                else:
                    kind = "made"
                    self.made(house, record, event)
                kinds[(kind, event[0])] = kinds.get((kind, event[0]), 0) + 1
            self.assertEqual(house, house_with(pool, quotes, money, *record.events))
        for name in NAMES:
            self.assertGreater(kinds[("made", name)], 10, kinds)
            self.assertGreater(kinds[("none", name)], 2, kinds)
            if name in ("sell", "buy back", "take out"):
                self.assertGreater(kinds[("refused", name)], 10, kinds)
        self.assertGreater(kinds["undo"], 50, kinds)


class NineSidesTest(HouseCase):
    def test_within_seconds(self):
        source = Random(142)
        pool, quotes, book = full_pool(source, 9)
        start = perf_counter()
        house = House(pool, quotes, (0, 1))
        for contract in book:
            with self.assertRaises(Unsecured):
                house.sell(contract, (-10 ** 9, 1))
            house.sell(contract, (10 ** 6, 1))
            house.take_out(pair_of(share_of(house.money()) - share_of(house.worth())))
        self.assertEqual(house.money(), house.worth())
        sides = parts_of(pool[0])
        for pair in sides:
            due = [number if kind == "side" else house.results()[number] for kind, number in pair]
            self.assertIsNone(house.result(source.choice(due)))
            self.assertGreaterEqual(share_of(house.money()), share_of(house.worth()))
        self.assertIsNone(house.pay_out())
        self.assertGreaterEqual(house.money()[0], 0)
        self.assertLess(perf_counter() - start, 15)

    def test_somewhat_more_matches(self):
        # A house has at most eight; nothing says that nine raise an error.
        source = Random(143)
        pool, quotes, book = full_pool(source, 10)
        house = House(pool, quotes, (0, 1))
        self.assertEqual(house.sell(book[0], (10 ** 6, 1)), 0)
        self.assertEqual(house.judge(("put in", (1, 1)))[0], "plan")
        self.assertEqual(type(house.worth()), tuple)


if __name__ == "__main__":
    unittest.main()
