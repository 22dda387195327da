"""The events of a house, and what it has behind them.

A STATE is a tuple (results, contracts, money, quotes, sales): what a house has, contracts as a dict from their numbers,
and how many sales there were. No state is ever changed, nor is what is in it: each event makes a new one.
"""

from poolhopes.contracts import MOST_CONTRACTS, is_contract, next_match, pays
from poolhopes.fractions import difference_of, is_fraction, total_of
from poolhopes.outlooks import Outlook
from poolhopes.quotes import are_quotes, cost, is_better
from poolhopes.trees import is_int


def copied_quotes(quotes):
    """Return a new dict with the same quotes."""
    return {pair: quotes[pair] for pair in quotes}


def copied_event(event):
    """Return an event with a new dict in the place of quotes."""
    return tuple([copied_quotes(part) if isinstance(part, dict) else part for part in event])


def first_state(quotes, money):
    """Return the state with which a house begins."""
    return ({}, {}, money, copied_quotes(quotes), 0)


def book_of(state):
    """Return the book of a state."""
    contracts = state[1]
    return tuple([contracts[number] for number in sorted(contracts)])


def outlook_of(pool, state):
    """Return the outlook of a state."""
    results, _, _, quotes, _ = state
    return Outlook(pool, results, quotes, book_of(state))


def can_sell(pool, state, event):
    """Return whether the contract of a sale is one, and there is room for it."""
    _, contract, price = event
    return len(state[1]) < MOST_CONTRACTS and is_contract(pool, contract) and is_fraction(price)


def can_buy_back(pool, state, event):
    """Return whether there is a contract with the number to buy back."""
    _, number, price = event
    return is_int(number) and number in state[1] and is_fraction(price)


def can_move_money(pool, state, event):
    """Return whether the amount to put in or to take out is greater than 0."""
    return is_fraction(event[1]) and event[1][0] > 0


def can_better(pool, state, event):
    """Return whether there are quotes in the event, and better ones."""
    return are_quotes(pool, event[1]) and is_better(pool, event[1], state[3])


def can_result(pool, state, event):
    """Return whether the side plays the next match."""
    due = next_match(pool, state[0])
    return is_int(event[1]) and due is not None and event[1] in due[1:]


def can_pay_out(pool, state, event):
    """Return whether no match is open."""
    return next_match(pool, state[0]) is None


def behind_sale(pool, state, event, bet):
    """Return the state behind a sale."""
    results, contracts, money, quotes, sales = state
    _, contract, price = event
    return (results, {**contracts, sales: contract}, total_of([money, price]), quotes, sales + 1)


def behind_buying_back(pool, state, event, bet):
    """Return the state behind buying a contract back."""
    results, contracts, money, quotes, sales = state
    _, number, price = event
    left = {other: contracts[other] for other in contracts if other != number}
    return (results, left, difference_of(money, price), quotes, sales)


def behind_putting_in(pool, state, event, bet):
    """Return the state behind putting money in."""
    results, contracts, money, quotes, sales = state
    return (results, contracts, total_of([money, event[1]]), quotes, sales)


def behind_taking_out(pool, state, event, bet):
    """Return the state behind taking money out."""
    results, contracts, money, quotes, sales = state
    return (results, contracts, difference_of(money, event[1]), quotes, sales)


def behind_bettering(pool, state, event, bet):
    """Return the state behind better quotes."""
    results, contracts, money, _, sales = state
    return (results, contracts, money, copied_quotes(event[1]), sales)


def behind_result(pool, state, event, bet):
    """Return the state behind a result, a bet having been made on it."""
    results, contracts, money, quotes, sales = state
    match, low, high = next_match(pool, results)
    won = [bet] if event[1] == low else []
    kept = difference_of(money, cost(quotes[(low, high)], bet))
    return ({**results, match: event[1]}, contracts, total_of([kept, *won]), quotes, sales)


def behind_paying_out(pool, state, event, bet):
    """Return the state behind paying out."""
    results, _, money, quotes, sales = state
    ending = tuple([results[at] for at in range(len(results))])
    return (results, {}, difference_of(money, pays(pool, book_of(state), ending)), quotes, sales)


SIZES = {"sell": 3, "buy back": 3, "put in": 2, "take out": 2, "better": 2, "result": 2, "pay out": 1}
CHECKS = {
    "sell": can_sell, "buy back": can_buy_back, "put in": can_move_money, "take out": can_move_money,
    "better": can_better, "result": can_result, "pay out": can_pay_out,
}
MOVES = {
    "sell": behind_sale, "buy back": behind_buying_back, "put in": behind_putting_in, "take out": behind_taking_out,
    "better": behind_bettering, "result": behind_result, "pay out": behind_paying_out,
}


def is_house_event(pool, state, value):
    """Return whether any value is an event of a house in a state."""
    if not isinstance(value, tuple) or not value or not isinstance(value[0], str):
        return False
    if value[0] not in SIZES or len(value) != SIZES[value[0]]:
        return False
    check = CHECKS[value[0]]
    return check(pool, state, value)


def state_behind(pool, state, event, bet):
    """Return the state behind an event; only a result asks for the bet on the next match."""
    move = MOVES[event[0]]
    return move(pool, state, event, bet)
