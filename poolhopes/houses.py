"""A house, which sells contracts and can always pay."""

from poolhopes.errors import InvalidEvent
from poolhopes.fractions import is_not_more
from poolhopes.houseerrors import Unsecured
from poolhopes.houseevents import (copied_event, copied_quotes, first_state, is_house_event, outlook_of,
                                   state_behind)
from poolhopes.scenarios import scenario_with

# All other events leave at least the worth of the book.
REFUSABLE = ("sell", "buy back", "take out")


class House:
    """A pool, with quotes, money, results and contracts."""

    def __init__(self, pool, quotes, money):
        self.pool = pool
        self._steps = [(("open", copied_quotes(quotes), money), first_state(quotes, money))]

    def __eq__(self, other):
        return isinstance(other, House) and self.pool == other.pool and self.events() == other.events()

    def events(self):
        """Return the list of the opening and of all events that were not taken back."""
        return [event for event, _ in self._steps]

    def steps(self):
        """Return a new list of (event, state behind it) for the opening and the events not taken back."""
        return list(self._steps)

    def state(self):
        """Return the present state."""
        return self._steps[-1][1]

    def state_after(self, event):
        """Return the state that there would be behind any value, or None if it is no event now."""
        state = self.state()
        if not is_house_event(self.pool, state, event):
            return None
        bet = self.next_bet() if event[0] == "result" else None
        return state_behind(self.pool, state, event, bet)

    def make(self, event):
        """Make an event."""
        state = self.state_after(event)
        if state is None:
            raise InvalidEvent(event)
        if event[0] in REFUSABLE:
            verdict, shown = judged(self.pool, state)
            if verdict == "scenario":
                raise Unsecured(shown)
        self._steps.append((copied_event(event), state))

    def sell(self, contract, price):
        """Sell a contract, and return its number."""
        number = self.state()[4]
        self.make(("sell", contract, price))
        return number

    def buy_back(self, number, price):
        """Buy a contract back."""
        self.make(("buy back", number, price))

    def put_in(self, amount):
        """Put money in."""
        self.make(("put in", amount))

    def take_out(self, amount):
        """Take money out."""
        self.make(("take out", amount))

    def better(self, quotes):
        """Take better quotes in the place of the present ones."""
        self.make(("better", quotes))

    def result(self, side):
        """Take in the winner of the next match."""
        self.make(("result", side))

    def pay_out(self):
        """Pay what the book pays."""
        self.make(("pay out",))

    def judge(self, event):
        """Return a plan for what there would be behind any value, or a scenario against it, or None if no event."""
        state = self.state_after(event)
        return None if state is None else judged(self.pool, state)

    def undo(self):
        """Take back the last event and return it, or None if there is none."""
        if len(self._steps) == 1:
            return None
        event, _ = self._steps.pop()
        return event

    def money(self):
        """Return the money."""
        return self.state()[2]

    def results(self):
        """Return the results."""
        return dict(self.state()[0])

    def quotes(self):
        """Return the quotes."""
        return copied_quotes(self.state()[3])

    def contracts(self):
        """Return a dict from numbers to contracts."""
        return dict(self.state()[1])

    def worth(self):
        """Return the worth of the book."""
        _, worths = outlook_of(self.pool, self.state()).exact_plan()
        return worths[()]

    def next_bet(self):
        """Return the exact bet on the next match, or None if no match is open."""
        plan, _ = outlook_of(self.pool, self.state()).exact_plan()
        return plan.get(())


def judged(pool, state):
    """Return ("plan", plan) with a plan that secures the book of a state, or ("scenario", scenario) against it."""
    outlook = outlook_of(pool, state)
    plan, worths = outlook.exact_plan()
    if is_not_more(worths[()], state[2]):
        return ("plan", plan)
    return ("scenario", scenario_with(outlook, worths))
