"""The worth of a book, and plans of bets that secure it."""

from poolhopes.fractions import difference_of, is_fraction, is_not_more
from poolhopes.outlooks import outlook_within
from poolhopes.quotes import bet_limits


def worth(pool, results, quotes, book):
    """Return the least money from which some plan secures a book."""
    _, worths = outlook_within(pool, results, quotes, book).exact_plan()
    return worths[()]


def find_plan(pool, results, quotes, book):
    """Return a plan that secures a book from its worth."""
    plan, _ = outlook_within(pool, results, quotes, book).exact_plan()
    return plan


def secures(pool, results, quotes, book, value, money):
    """Return whether any value is a plan that secures a book from some money."""
    return is_secured(outlook_within(pool, results, quotes, book), value, money)


def is_secured(outlook, value, money):
    """Return whether any value is a plan that secures the book of an outlook from some money."""
    return is_plan(outlook, value) and is_not_more(outlook.needs(value)[()], money)


def is_plan(outlook, value):
    """Return whether any value is a plan."""
    if not outlook.has_just_courses(value):
        return False
    return all([is_bet(outlook.ladders[course], value[course]) for course in value])


def is_bet(ladder, value):
    """Return whether any value is a bet that can be made at a ladder."""
    low, high = bet_limits(ladder)
    return is_fraction(value) and low * value[1] <= value[0] <= high * value[1]


def falls_short(pool, results, quotes, book, plan, money):
    """Return an ending that a plan does not secure from some money, and what is missing there, or None."""
    outlook = outlook_within(pool, results, quotes, book)
    needs = outlook.needs(plan)
    if is_not_more(needs[()], money):
        return None
    row = ()
    while row in outlook.sides:
        low, high = outlook.sides[row]
        one, other = outlook.both(needs, row)
        row = (*row, high if is_not_more(difference_of(one, plan[row]), other) else low)
    return (outlook.endings[row], difference_of(needs[()], money))
