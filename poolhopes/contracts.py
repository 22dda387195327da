"""Contracts, which pay something behind an ending, and the match that is next."""

from poolhopes.endings import scores
from poolhopes.fractions import fraction_of
from poolhopes.hopes import is_question, is_team, points_of, reaches
from poolhopes.places import first_of, place_of
from poolhopes.pools import is_within, sides_at
from poolhopes.trees import matches

MOST_AMOUNT = 1000
MOST_ITEMS = 6
MOST_CONTRACTS = 8


def is_contract(pool, value):
    """Return whether any value is a contract."""
    if not isinstance(value, tuple) or len(value) > MOST_ITEMS:
        return False
    return all([is_item(pool, item) for item in value])


def is_item(pool, value):
    """Return whether any value is an item."""
    if not isinstance(value, tuple) or len(value) != 2:
        return False
    return is_within(value[0], -MOST_AMOUNT, MOST_AMOUNT) and is_thing(pool, value[1])


def is_thing(pool, value):
    """Return whether any value is a thing that an item can name."""
    if not isinstance(value, tuple):
        return False
    many = len(pool[3])
    if len(value) == 2 and value[0] == "hope":
        return is_question(pool, value[1])
    if len(value) == 2 and value[0] == "share":
        return is_within(value[1], 0, many - 1)
    if len(value) == 3 and value[0] == "lead":
        return is_team(value[1], many) and is_team(value[2], many)
    if len(value) == 3 and value[0] == "place":
        return is_within(value[1], 0, many - 1) and is_within(value[2], 1, many)
    return False


def is_book(pool, value):
    """Return whether any value is a book."""
    if not isinstance(value, tuple) or len(value) > MOST_CONTRACTS:
        return False
    return all([is_contract(pool, contract) for contract in value])


def pays(pool, book, ending):
    """Return what a book pays behind an ending."""
    points = scores(pool, ending)
    first = first_of(points)
    # Only shares are no integers, and the number of those that split is the bottom of all of them.
    parts = 0
    for contract in book:
        for amount, thing in contract:
            parts += amount * parts_of(thing, points, first)
    return fraction_of(parts, len(first))


def parts_of(thing, points, first):
    """Return what a thing pays, in parts of 1 of which there are as many as entrants in the first place."""
    kind = thing[0]
    if kind == "share":
        return 1 if thing[1] in first else 0
    if kind == "lead":
        return len(first) * (points_of(points, thing[1]) - points_of(points, thing[2]))
    if kind == "hope":
        return len(first) if reaches(points, thing[1]) else 0
    return len(first) if place_of(points, thing[1]) == thing[2] else 0


def next_match(pool, results):
    """Return (match, s, t) for the next match, or None if no match is open."""
    for at in range(len(matches(pool[0]))):
        if at not in results:
            low, high = sides_at(pool, results, at)
            return (at, low, high)
    return None
