"""Quotes: at which prices one can bet on the matches."""

from poolhopes.fractions import is_fraction, is_not_more, total_of
from poolhopes.pools import has_just_pairs, is_within

MOST_STEPS = 3
MOST_TICKETS = 10000000
MOST_BOTTOM = 100


def are_quotes(pool, value):
    """Return whether any value is quotes of a pool."""
    return has_just_pairs(pool, value) and all([is_ladder(ladder) for ladder in value.values()])


def is_ladder(value):
    """Return whether any value is a ladder."""
    if not isinstance(value, tuple) or len(value) != 2 or not all([are_steps(steps) for steps in value]):
        return False
    buying, selling = value
    if not rise(buying) or not rise(selling[::-1]):
        return False
    return not buying or not selling or is_not_more(selling[0][0], buying[0][0])


def are_steps(value):
    """Return whether any value is a tuple of a few steps."""
    return isinstance(value, tuple) and len(value) <= MOST_STEPS and all([is_step(step) for step in value])


def is_step(value):
    """Return whether any value is a step."""
    if not isinstance(value, tuple) or len(value) != 2 or not is_within(value[1], 1, MOST_TICKETS):
        return False
    return is_fraction(value[0]) and 0 <= value[0][0] <= value[0][1] <= MOST_BOTTOM


def rise(steps):
    """Return whether each price is greater than the one before it."""
    return all([not is_not_more(other[0], one[0]) for one, other in zip(steps, steps[1:])])


def bet_limits(ladder):
    """Return the least and the greatest bet."""
    buying, selling = ladder
    return (-tickets_of(selling), tickets_of(buying))


def tickets_of(steps):
    """Return the number of all tickets of steps."""
    return sum([tickets for _, tickets in steps])


def cost(ladder, bet):
    """Return the cost of a bet."""
    buying, selling = ladder
    top, bottom = bet
    steps = buying if top > 0 else selling
    # Tickets are counted in parts of the bottom of the bet here.
    left = abs(top)
    parts = []
    for (price, whole), tickets in steps:
        taken = min(left, tickets * bottom)
        parts.append((taken * price, bottom * whole))
        left -= taken
    spent, shared = total_of(parts)
    return (spent, shared) if top > 0 else (-spent, shared)


def is_better(pool, quotes, others):
    """Return whether quotes are better than others."""
    return find_worse(pool, quotes, others) is None


def find_worse(pool, quotes, others):
    """Return a pair and a bet that others offer, and the quotes not, or for more; or None if there is none."""
    for pair in sorted(others):
        bet = worse_bet(quotes[pair], others[pair])
        if bet is not None:
            return (pair, bet)
    return None


def worse_bet(ladder, other):
    """Return a bet that another ladder offers, and this one not, or for more; or None if there is none."""
    low, high = bet_limits(other)
    # Both costs are linear between corners, so if one is greater somewhere, it is so at a corner.
    for corner in sorted(corners_of(ladder) + corners_of(other)):
        if low <= corner <= high and not is_as_good(ladder, other, (corner, 1)):
            return (corner, 1)
    return None


def is_as_good(ladder, other, bet):
    """Return whether a bet at another ladder can be made at this one, too, and costs at most as much."""
    low, high = bet_limits(ladder)
    return low * bet[1] <= bet[0] <= high * bet[1] and is_not_more(cost(ladder, bet), cost(other, bet))


def corners_of(ladder):
    """Return the bets that take all tickets of the first steps, of buying or of selling."""
    buying, selling = ladder
    bought = [tickets_of(buying[:at + 1]) for at in range(len(buying))]
    sold = [-tickets_of(selling[:at + 1]) for at in range(len(selling))]
    return bought + sold
