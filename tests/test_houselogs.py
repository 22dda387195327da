import unittest
from copy import deepcopy
from fractions import Fraction
from random import Random
from time import perf_counter

from poolhopes.houselogs import first_house_fault, house_behind, house_log, is_house_log
from poolhopes.houses import House
from tests.brute import inside_of, pair_of
from tests.checks import check_bool, check_new
from tests.money import (BOOK, FLAT, HUGE, LADDER, LITTLE, NO_LADDER, OWED, QUOTES, TEN, TWO, full_pool, keeps_plan,
                         large, missing_by_ending, next_of, random_contract, random_quotes, share_of)
from tests.record import Record, book_of, check_plan, worth_at
from tests.samples import POOL, deep, junk, random_pool, random_tree, twists
from tests.test_houses import BETTER, house_with

SALE = ("sell", TEN, (10, 1))
OPENING = (("open", QUOTES, (0, 1)), {(): (0, 1)})


def fault_in(pool, value):
    """Return the number of the first entry that is not right, or None, for entries of the right forms."""
    record = None
    plan = None
    for at, entry in enumerate(value):
        event, next_plan = entry
        if at == 0:
            if event[0] != "open":
                return at
            record = Record(pool, event[1], event[2])
        elif not record.can_come(event):
            return at
        else:
            bet = share_of(plan[()]) if event[0] == "result" else None
            record.make(event, bet)
        plan = next_plan
        results, _, money, quotes, _ = record.state()
        if not keeps_plan(pool, results, quotes, plan):
            return at
        if max(missing_by_ending(pool, results, quotes, book_of(record.state()), plan).values()) > money:
            return at
    return None if value else 0


def random_house(source, pool, steps):
    """Return a house at which random events were made, and the record of it."""
    quotes = random_quotes(source, len(pool[1]) + 1, 9)
    money = source.choice(((0, 1), (7, 2), (50, 1)))
    house, record = House(pool, quotes, money), Record(pool, quotes, money)
    for _ in range(steps):
        results, contracts, money, quotes, _ = record.state()
        name = source.choice(("sell", "sell", "buy back", "put in", "better", "take out", "result", "result",
                              "pay out"))
        event = (name,)
        if name == "sell":
            event = (name, random_contract(source, len(pool[3])), (source.randint(0, 1000), 1))
        elif name == "buy back":
            event = (name, source.choice(sorted(contracts) or [0]), (source.randint(-5, 5), 1))
        elif name in ("put in", "take out"):
            event = (name, (source.randint(1, 9), 1))
        elif name == "better":
            pair = source.choice(sorted(quotes))
            more = tuple([(price, tickets + 1) for price, tickets in quotes[pair][0]])
            event = (name, {**quotes, pair: (more, quotes[pair][1])})
        elif name == "result":
            event = (name, source.choice((record.due() or (0, 0, 0))[1:]))
        if record.can_come(event) and record.after(event)[2] >= worth_at(pool, record.after(event)):
            record.make(event)
            getattr(house, name.replace(" ", "_"))(*event[1:])
    return house, record


class LogTest(unittest.TestCase):
    def check(self, house, record):
        """Check the log of a house, and return it."""
        found = house_log(house)
        self.assertIs(type(found), list)
        self.assertEqual({type(entry) for entry in found} | {type(event) for event, _ in found}, {tuple})
        self.assertEqual([event for event, _ in found], [("open", *record.first), *record.events])
        for (_, plan), state in zip(found, record.states):
            check_plan(self, record.pool, state, plan)
        # The bets that results settle are the exact ones.
        for (_, plan), event, state, later in zip(found, record.events, record.states, record.states[1:]):
            if event[0] == "result":
                bet = share_of(plan[()])
                self.assertEqual(record_at(record, state).after(event, bet)[2], later[2])
        self.assertEqual(house_log(house), found)
        check_bool(self, True, is_house_log, record.pool, found)
        self.assertIsNone(first_house_fault(record.pool, found))
        results, contracts, money, quotes, _ = record.state()
        behind = house_behind(record.pool, found)
        self.assertEqual(behind, (results, contracts, pair_of(money), quotes))
        self.assertEqual([type(behind)] + [type(part) for part in behind], [tuple, dict, dict, tuple, dict])
        self.assertEqual(behind, (house.results(), house.contracts(), house.money(), house.quotes()))
        check_new(self, house_log, house)
        check_new(self, house_behind, record.pool, found)
        return found

    def test_examples(self):
        house = House(TWO, QUOTES, (0, 1))
        self.assertEqual(house.sell(TEN, (36, 5)), 0)
        self.assertEqual(len(house_log(house)), 2)
        self.assertIs(is_house_log(TWO, house_log(house)), True)
        self.assertEqual(house_log(house)[1], (("sell", TEN, (36, 5)), {(): (10, 1)}))
        house.result(1)
        self.assertEqual(house_behind(TWO, house_log(house)), ({0: 1}, {0: TEN}, (0, 1), QUOTES))
        self.assertEqual(first_house_fault(TWO, house_log(house)[1:]), 0)

    def test_a_new_house(self):
        found = self.check(House(TWO, QUOTES, (0, 1)), Record(TWO, QUOTES, (0, 1)))
        self.assertEqual(found, [OPENING])

    def test_all_kinds_of_events(self):
        events = [SALE, ("put in", (1, 3)), ("sell", OWED, (-1, 1)), ("better", BETTER), ("take out", (1, 2)),
                  ("buy back", 1, (-1, 1)), ("result", 0), ("take out", (1, 9)), ("pay out",), ("pay out",),
                  ("sell", (), (0, 1)), ("better", BETTER)]
        record = Record(TWO, QUOTES, (2, 1))
        house = House(TWO, QUOTES, (2, 1))
        for event in events:
            record.make(event)
            getattr(house, event[0].replace(" ", "_"))(*event[1:])
            self.check(house, record)
        while record.events:
            record.undo()
            house.undo()
            self.check(house, record)

    def test_random_houses(self):
        source = Random(150)
        for _ in range(30):
            tree = random_tree(source, source.randint(2, 5))
            pool = random_pool(source, tree, inside_of(tree), source.randint(1, 5), 5)
            self.check(*random_house(source, pool, 20))

    def test_what_was_told_stays_as_it_is(self):
        house = house_with(TWO, QUOTES, (9, 1), SALE, ("better", BETTER))
        told = house_log(house)
        kept = deepcopy(told)
        house.result(0)
        house.undo()
        house.undo()
        house.undo()
        self.assertEqual(told, kept)
        told[0][0][1].clear()
        told[1][1].clear()
        told[2][0][1].clear()
        again = house_with(TWO, QUOTES, (9, 1), SALE, ("better", BETTER))
        house.sell(TEN, (10, 1))
        house.better(BETTER)
        self.assertEqual(house, again)
        self.assertEqual(house_log(house), kept)
        # What is behind a log does not hang on the log.
        behind = house_behind(TWO, kept)
        for event, plan in kept:
            plan.clear()
            if event[0] in ("open", "better"):
                event[1].clear()
        self.assertEqual(behind, ({}, {0: TEN}, (19, 1), BETTER))


def record_at(record, state):
    """Return a record with this state."""
    found = Record(record.pool, *record.first)
    found.states = [state]
    return found


class FaultTest(unittest.TestCase):
    def check(self, fault, *entries, pool=TWO):
        """Check the first fault, and whether it is a house log."""
        value = list(entries)
        before = deepcopy(value)
        found = first_house_fault(pool, value)
        self.assertEqual(found, fault)
        self.assertIs(type(found), type(fault))
        self.assertEqual(value, before)
        check_bool(self, fault is None, is_house_log, pool, value)

    def test_no_entry(self):
        self.check(0)

    def test_the_first_entry(self):
        self.check(None, OPENING)
        for money in ((0, 1), (1, 3), (HUGE, 7)):
            self.check(None, (("open", QUOTES, money), {(): (0, 1)}))
        for money in ((-1, 1), (-1, HUGE), (0, 2), (2, 4), (1, 0), (True, 1), None, 0, 1, "0", [0, 1], (1,), ()):
            self.check(0, (("open", QUOTES, money), {(): (0, 1)}))
        for quotes in junk() + twists(QUOTES) + [{}, FLAT, {(1, 0): LADDER}, LADDER, None, (QUOTES,)]:
            self.check(0, (("open", quotes, (9, 1)), {(): (0, 1)}))
        for event in (("open",), ("open", QUOTES), ("open", QUOTES, (0, 1), None), ["open", QUOTES, (0, 1)], "open",
                      ("Open", QUOTES, (0, 1)), ("opening", QUOTES, (0, 1)), (QUOTES, (0, 1)), SALE, ("put in", (1, 1)),
                      ("better", QUOTES), (None, QUOTES, (0, 1)), (["open"], QUOTES, (0, 1)), ("open", (0, 1), QUOTES)):
            self.check(0, (event, {(): (0, 1)}))
        # A bet that may lose what is there is none that secures; with more money it is one.
        self.check(0, (("open", QUOTES, (0, 1)), {(): (1, 1)}))
        self.check(0, (("open", QUOTES, (5999999999, 10 ** 10)), {(): (1, 1)}))
        self.check(None, (("open", QUOTES, (3, 5)), {(): (1, 1)}))
        self.check(0, OPENING, pool=POOL)

    def test_an_opening_elsewhere(self):
        self.check(1, OPENING, OPENING)
        self.check(0, (SALE, {(): (10, 1)}), OPENING)
        self.check(2, OPENING, (SALE, {(): (10, 1)}), OPENING)

    def test_plans(self):
        self.check(None, OPENING, (SALE, {(): (10, 1)}))
        self.check(None, OPENING, (SALE, {(): (0, 1)}))
        self.check(None, OPENING, (SALE, {(): (1, 1)}))
        self.check(1, OPENING, (SALE, {(): (-1, 1)}))
        less = ("sell", TEN, (9999999999, 10 ** 9))
        self.check(1, OPENING, (less, {(): (0, 1)}))
        self.check(None, OPENING, (less, {(): (10, 1)}))
        for plan in large():
            self.check(1, OPENING, (SALE, plan))
        for plan in junk() + twists({(): (10, 1)}) + [
                {(): (11, 1)}, {(): (-101, 1)}, {(): (20, 2)}, {(0,): (10, 1)}, {(): (10, 1), (0,): (0, 1)},
                {0: (10, 1)}, [((), (10, 1))], {(): 10}, {(): None}, deep({(): (10, 1)}, 90, tuple)]:
            self.check(1, OPENING, (SALE, plan), (SALE, plan))
            self.check(0, (OPENING[0], plan))
        # A plan for a match that was played is none.
        self.check(2, OPENING, (SALE, {(): (10, 1)}), (("result", 0), {(): (0, 1)}))
        self.check(None, OPENING, (SALE, {(): (10, 1)}), (("result", 0), {}))
        self.check(1, OPENING, (SALE, {}))

    def test_the_bet_before_a_result_settles_it(self):
        for money, bet, side, left in (((10, 1), (10, 1), 0, (64, 5)), ((10, 1), (10, 1), 1, (14, 5)),
                                       ((10, 1), (5, 1), 0, (59, 5)), ((10, 1), (5, 1), 1, (34, 5)),
                                       ((10, 1), (0, 1), 0, (10, 1)), ((12, 1), (-2, 1), 0, (11, 1)),
                                       ((12, 1), (-2, 1), 1, (13, 1))):
            entries = (OPENING, (("sell", TEN, money), {(): bet}), (("result", side), {}))
            self.check(None, *entries)
            self.assertEqual(house_behind(TWO, list(entries)), ({0: side}, {0: TEN}, left, QUOTES))
            out = pair_of(share_of(left) - (10 if side == 0 else 0))
            if out[0] > 0:
                self.check(None, *entries, (("take out", out), {}), (("pay out",), {}))
                self.check(3, *entries, (("take out", pair_of(share_of(out) + LITTLE)), {}))
            self.check(3, *entries, (("take out", (20, 1)), {}), (("pay out",), {}))

    def test_a_changed_bet_with_which_the_money_is_too_little_later(self):
        # With 54/5 and a bet of 33/4, which costs 29/5, just 5 is left if it is lost.
        for bet, fault in (((10, 1), 3), ((5, 1), None), ((0, 1), None), ((9, 1), 3), ((33, 4), None),
                           ((8250000001, 10 ** 9), 3), ((7, 1), None)):
            self.check(fault, OPENING, (("sell", TEN, (54, 5)), {(): bet}), (("result", 1), {}),
                       (("buy back", 0, (5, 1)), {}))

    def test_events(self):
        start = (OPENING, (SALE, {(): (10, 1)}))
        for event, fault in ((("put in", (1, 1)), None), (("put in", (0, 1)), 2), (("put in", (-1, 1)), 2),
                             (("take out", (14, 5)), None), (("take out", (2800000001, 10 ** 9)), 2),
                             (("take out", (0, 1)), 2), (("better", BETTER), None), (("better", QUOTES), None),
                             (("better", {(0, 1): NO_LADDER}), 2), (("better", None), 2),
                             (("sell", TEN, (10, 1)), None), (("sell", (), (0, 1)), None), (("sell", TEN, (0, 1)), 2),
                             (("sell", None, (0, 1)), 2), (("pay out",), 2), (("buy back", 0, (0, 1)), None),
                             (("buy back", 0, (1, 0)), 2),
                             (("buy back", 0, (14, 5)), None), (("buy back", 0, (2800000001, 10 ** 9)), 2),
                             (("buy back", 1, (0, 1)), 2), (("buy back", False, (0, 1)), 2), (("result", 0), 2),
                             (("unknown",), 2)):
            self.check(fault, *start, (event, {(): (10, 1)}))
        self.check(None, *start, (("buy back", 0, (10, 1)), {(): (0, 1)}))
        self.check(2, *start, (("buy back", 0, (10000000001, 10 ** 9)), {(): (0, 1)}))
        for side in (*range(-1, 3), True, False, None):
            self.check(None if type(side) is int and side in (0, 1) else 2, *start, (("result", side), {}))
        self.check(None, *start, (("result", 0), {}), (("pay out",), {}), (("pay out",), {}),
                   (("sell", (), (0, 1)), {}))
        self.check(3, *start, (("result", 0), {}), (("result", 0), {}))

    def test_eight_contracts_and_a_ninth(self):
        entry = (("sell", (), (0, 1)), {(): (0, 1)})
        for many in range(7, 12):
            self.check(9 if many > 8 else None, OPENING, *([entry] * many))
        self.check(None, OPENING, *([entry] * 8), (("buy back", 4, (0, 1)), {(): (0, 1)}), entry)
        self.check(10, OPENING, *([entry] * 8), (("buy back", 4, (0, 1)), {(): (0, 1)}),
                   (("buy back", 4, (0, 1)), {(): (0, 1)}))
        again = (OPENING, *([entry] * 8), (("buy back", 4, (0, 1)), {(): (0, 1)}), entry)
        self.assertEqual(sorted(house_behind(TWO, list(again))[1]), [0, 1, 2, 3, 5, 6, 7, 8])

    def test_entries_of_other_forms(self):
        right = (SALE, {(): (10, 1)})
        for entry in junk() + [right[:1], (*right, None), list(right), right[::-1], [right], (right,), SALE,
                               {0: SALE, 1: right[1]}, (list(SALE), right[1]), (None, right[1]), ("sell", right[1])]:
            self.check(0, entry)
            self.check(1, OPENING, entry)
            self.check(2, OPENING, right, entry, entry)
            self.check(0, entry, OPENING)
        for entry in large():
            self.check(1, OPENING, entry)
            self.check(1, OPENING, (entry, {(): (10, 1)}))
        for event in junk() + twists(SALE):
            self.check(1, OPENING, (event, {(): (10, 1)}))

    def test_two_entries_spoilt(self):
        told = house_log(house_with(TWO, QUOTES, (9, 1), SALE, ("put in", (1, 1)), ("result", 0), ("pay out",)))
        for one in range(len(told)):
            for other in range(one + 1, len(told)):
                value = list(told)
                value[one], value[other] = None, (value[other][0], None)
                self.check(one, *value)
                value[one] = told[one]
                self.check(other, *value)

    def test_other_values(self):
        for value in junk() + large():
            check_bool(self, False, is_house_log, TWO, value)
        for value in (tuple([OPENING]), OPENING, {0: OPENING}, [[OPENING]], [OPENING] * 40000, ("open", QUOTES, (0, 1)),
                      deep(OPENING, 90, list), House(TWO, QUOTES, (0, 1)), [House(TWO, QUOTES, (0, 1))]):
            check_bool(self, False, is_house_log, TWO, value)
        for value in twists([OPENING, (SALE, {(): (10, 1)})]):
            check_bool(self, False, is_house_log, TWO, value)
        self.assertEqual(first_house_fault(TWO, [OPENING] * 40000), 1)

    def test_other_pools(self):
        told = house_log(house_with(POOL, FLAT, (90, 1), ("sell", BOOK[0], (1, 1)), ("result", 3), ("result", 1)))
        self.check(None, *told, pool=POOL)
        self.check(0, *told, pool=TWO)
        # On this tree, match 0 is that of 1 and 2, so that the courses are others.
        sheets = tuple([(sheet[1], sheet[0], sheet[2]) for sheet in POOL[3]])
        self.check(0, *told, pool=(((1, 2), (0, 3)), *POOL[1:3], sheets))

    def test_changed_logs(self):
        source = Random(151)
        faults = {}
        for _ in range(50):
            tree = random_tree(source, source.randint(2, 4))
            pool = random_pool(source, tree, inside_of(tree), source.randint(2, 4), 5)
            house, _ = random_house(source, pool, 14)
            told = house_log(house)
            for _ in range(12):
                kind, value = self.changed(source, pool, told)
                fault = fault_in(pool, value)
                self.check(fault, *value, pool=pool)
                faults.setdefault((kind, fault is None), 0)
                faults[(kind, fault is None)] += 1
                if fault is None:
                    self.check_behind(pool, value)
        for kind in ("out", "twice", "exchanged", "put in", "event", "bet", "plan"):
            self.assertGreater(faults[(kind, False)], 5, faults)
        for kind in ("out", "put in", "event", "bet"):
            self.assertGreater(faults[(kind, True)], 5, faults)

    def check_behind(self, pool, value):
        """Check what is behind a house log."""
        record = Record(pool, *value[0][0][1:])
        for (event, _), (_, plan) in zip(value[1:], value):
            record.make(event, share_of(plan[()]) if event[0] == "result" else None)
        results, contracts, money, quotes, _ = record.state()
        self.assertEqual(house_behind(pool, value), (results, contracts, pair_of(money), quotes))

    def changed(self, source, pool, told):
        """Return a kind of change, and a log that is changed so."""
        value = deepcopy(told)
        at = source.randrange(len(value))
        kind = source.choice(("out", "twice", "exchanged", "put in", "event", "bet", "plan"))
        event, plan = value[at]
        if kind == "out":
            del value[source.choice((at, -1))]
        elif kind == "twice":
            value.insert(at, deepcopy(value[at]))
        elif kind == "exchanged":
            other = source.randrange(len(value))
            value[at], value[other] = value[other], value[at]
        elif kind == "put in":
            value.insert(at + 1, (("put in", (source.choice((0, 1, 1)), 1)), deepcopy(plan)))
        elif kind == "event" and event[0] in ("sell", "buy back", "put in", "take out"):
            price = pair_of(share_of(event[-1]) + source.choice((1, -1, 500, -500)))
            value[at] = ((*event[:-1], price), plan)
        elif kind == "event" and event[0] == "open":
            # The house has a little more from the beginning on.
            value[at] = ((*event[:2], (event[2][0] + event[2][1], event[2][1])), plan)
        elif kind == "bet" and plan:
            bet = share_of(plan[()]) + source.choice((1, -1, Fraction(1, 2), Fraction(-1, 2), LITTLE))
            value[at] = (event, {**plan, (): pair_of(bet)})
        elif kind == "plan" and plan:
            other = source.randrange(len(value))
            value[at] = (event, value[other][1])
        else:
            return "none", value
        return kind, value


class NineSidesTest(unittest.TestCase):
    def test_within_seconds(self):
        source = Random(152)
        pool, quotes, book = full_pool(source, 9)
        start = perf_counter()
        house = House(pool, quotes, (10 ** 6, 1))
        for contract in book:
            house.sell(contract, (10 ** 5, 1))
        house.better(quotes)
        for _ in range(8):
            _, low, high = next_of(pool, house.results())
            house.result(source.choice((low, high)))
            house.put_in((1, 3))
        house.pay_out()
        told = house_log(house)
        self.assertEqual(len(told), 27)
        self.assertIs(is_house_log(pool, told), True)
        self.assertIsNone(first_house_fault(pool, told))
        self.assertEqual(house_behind(pool, told), (house.results(), {}, house.money(), quotes))
        spoilt = list(told)
        spoilt[9] = (told[9][0], {**told[9][1], (0,): (10 ** 6, 1)})
        self.assertEqual(first_house_fault(pool, spoilt), 9)
        self.assertLess(perf_counter() - start, 15)


if __name__ == "__main__":
    unittest.main()
