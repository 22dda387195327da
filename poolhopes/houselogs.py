"""The log of a house, which can be checked without any search."""

from poolhopes.fractions import is_fraction
from poolhopes.houseevents import copied_event, first_state, is_house_event, outlook_of, state_behind
from poolhopes.quotes import are_quotes
from poolhopes.worths import is_secured


def house_log(house):
    """Return the log of a house: (event, plan) for its beginning and its events in order."""
    found = []
    for event, state in house.steps():
        plan, _ = outlook_of(house.pool, state).exact_plan()
        found.append((copied_event(event), plan))
    return found


def first_house_fault(pool, value):
    """Return the number of the first entry of a list that is not right, or None if it is a house log."""
    state = None
    bet = None
    for at, entry in enumerate(value):
        if not isinstance(entry, tuple) or len(entry) != 2:
            return at
        event, plan = entry
        is_right = is_opening(pool, event) if at == 0 else is_house_event(pool, state, event)
        if not is_right:
            return at
        state = next_state(pool, state, event, bet)
        if not is_secured(outlook_of(pool, state), plan, state[2]):
            return at
        bet = plan.get(())
    return None if value else 0


def is_opening(pool, value):
    """Return whether any value is what stands first in a house log."""
    if not isinstance(value, tuple) or len(value) != 3 or value[0] != "open":
        return False
    _, quotes, money = value
    return are_quotes(pool, quotes) and is_fraction(money) and money[0] >= 0


def next_state(pool, state, event, bet):
    """Return the state behind an opening, or behind an event and the state before it."""
    if event[0] == "open":
        return first_state(event[1], event[2])
    return state_behind(pool, state, event, bet)


def is_house_log(pool, value):
    """Return whether any value is a house log."""
    return isinstance(value, list) and first_house_fault(pool, value) is None


def house_behind(pool, log):
    """Return (results, contracts, money, quotes) behind a house log."""
    state = None
    bet = None
    for event, plan in log:
        state = next_state(pool, state, event, bet)
        bet = plan.get(())
    # All dicts of a state were made along with it, so nobody else has them.
    results, contracts, money, quotes, _ = state
    return (results, contracts, money, quotes)
