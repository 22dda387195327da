"""A house as a test keeps it: all that there is behind a list of events, worked out in the plainest way."""

from fractions import Fraction

from tests.brute import endings_of, pair_of
from tests.money import (both_worths, cost_of, exact_of, is_as_good, keeps_plan, missing_by_ending, next_of,
                         paid_by_book, share_of, sum_of, worth_of)


class Record:
    """What a house should have; money is a Fraction."""

    def __init__(self, pool, quotes, money):
        self.pool = pool
        self.first = (dict(quotes), money)
        self.events = []
        self.states = [({}, {}, share_of(money), dict(quotes), 0)]

    def state(self):
        """Return (results, contracts, money, quotes, sales)."""
        return self.states[-1]

    def due(self):
        """Return (match, s, t) for the next match, or None."""
        return next_of(self.pool, self.state()[0])

    def can_come(self, event):
        """Return whether an event of the right form can come, money aside."""
        _, contracts, _, quotes, _ = self.state()
        if event[0] == "sell":
            return len(contracts) < 8
        if event[0] == "buy back":
            return event[1] in contracts
        if event[0] in ("put in", "take out"):
            return event[1][0] > 0
        if event[0] == "better":
            return all(is_as_good(event[1][pair], quotes[pair]) for pair in quotes)
        if event[0] == "result":
            return self.due() is not None and event[1] in self.due()[1:]
        return event[0] == "pay out" and self.due() is None

    def after(self, event, bet=None):
        """Return the state behind an event that can come; a bet on the next match may be given for a result."""
        results, contracts, money, quotes, sales = self.state()
        name = event[0]
        if name == "sell":
            return results, {**contracts, sales: event[1]}, money + share_of(event[2]), quotes, sales + 1
        if name == "buy back":
            rest = {number: contracts[number] for number in contracts if number != event[1]}
            return results, rest, money - share_of(event[2]), quotes, sales
        if name in ("put in", "take out"):
            amount = share_of(event[1])
            return results, contracts, money + amount if name == "put in" else money - amount, quotes, sales
        if name == "better":
            return results, contracts, money, dict(event[1]), sales
        if name == "pay out":
            ending = endings_of(self.pool, results)[0]
            return results, {}, money - paid_by_book(self.pool, book_of(self.state()), ending), quotes, sales
        at, low, high = self.due()
        if bet is None:
            bet = exact_of(*both_worths(self.pool, results, quotes, book_of(self.state())))
        brought = (bet if event[1] == low else Fraction(0)) - cost_of(quotes[(low, high)], bet)
        return {**results, at: event[1]}, contracts, money + brought, quotes, sales

    def make(self, event, bet=None):
        """Take in an event that can come."""
        self.states.append(self.after(event, bet))
        self.events.append(event)

    def undo(self):
        """Take back the last event."""
        self.states.pop()
        return self.events.pop()


def book_of(state):
    """Return the book of a state."""
    return tuple([state[1][number] for number in sorted(state[1])])


def worth_at(pool, state):
    """Return the worth of the book of a state."""
    return worth_of(pool, state[0], state[3], book_of(state))


def check_told(test, house, record):
    """Check all that a house tells."""
    results, contracts, money, quotes, _ = record.state()
    told = (house.results(), house.contracts(), house.money(), house.quotes())
    test.assertEqual(told, (results, contracts, pair_of(money), quotes))
    test.assertEqual([type(part) for part in told], [dict, dict, tuple, dict])
    needed = worth_at(record.pool, record.state())
    test.assertEqual(house.worth(), pair_of(needed))
    test.assertGreaterEqual(money, needed)
    if record.due() is None:
        test.assertIsNone(house.next_bet())
    else:
        exact = exact_of(*both_worths(record.pool, results, quotes, book_of(record.state())))
        test.assertEqual(house.next_bet(), pair_of(exact))


def check_plan(test, pool, state, plan):
    """Check that a plan secures the book of a state from its money."""
    results, _, money, quotes, _ = state
    test.assertTrue(keeps_plan(pool, results, quotes, plan))
    test.assertLessEqual(max(missing_by_ending(pool, results, quotes, book_of(state), plan).values()), money)


def check_scenario(test, pool, state, scenario):
    """Check that a scenario shows that the money of a state is too little."""
    results, _, money, quotes, _ = state
    test.assertIs(type(scenario), dict)
    plan = {course: (0, 1) for course in scenario}
    test.assertTrue(keeps_plan(pool, results, quotes, plan))
    test.assertTrue(all(0 <= share_of(chance) <= 1 for chance in scenario.values()))
    test.assertGreater(sum_of(pool, results, quotes, book_of(state), scenario), money)
