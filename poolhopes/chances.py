"""With which chance something comes."""

from math import factorial, lcm

from poolhopes.counts import board_of_all, hopeful_weight, points_behind, weights_at_end
from poolhopes.fractions import fraction_of, is_fraction
from poolhopes.leads import Board
from poolhopes.places import first_of
from poolhopes.pools import has_just_pairs, sides_at
from poolhopes.trees import matches


def are_chances(pool, value):
    """Return whether any value is chances of a pool."""
    return has_just_pairs(pool, value) and all([is_chance(share) for share in value.values()])


def is_chance(value):
    """Return whether any value is a fraction from 0 to 1."""
    return is_fraction(value) and 0 <= value[0] <= value[1]


def chance_of(chances, winner, loser):
    """Return (top, bottom) of the chance that one side wins over another one."""
    if winner < loser:
        return chances[(winner, loser)]
    top, bottom = chances[(loser, winner)]
    return (bottom - top, bottom)


def chances_at_end(board, results, chances):
    """Return (end, whole): a dict from each lead at the end to its chance, in parts of the whole."""
    weights = []
    whole = 1
    # Integers over one bottom for all leads are quicker to add than fractions.
    for at, duels in enumerate(board.duels):
        some = [(1, 1) if at in results else chance_of(chances, duel[0], duel[2]) for duel in duels]
        shared = 1
        for _, bottom in some:
            shared = lcm(shared, bottom)
        weights.append([top * (shared // bottom) for top, bottom in some])
        whole = whole * shared
    return (weights_at_end(board, weights), whole)


def chance(pool, results, chances, question):
    """Return the chance that the ending is a hope."""
    board = Board(((pool, question),), results)
    end, whole = chances_at_end(board, results, chances)
    return fraction_of(hopeful_weight(board, end), whole)


def chance_if(pool, results, chances, question, match):
    """Return a dict from the two sides of a match to the chance of a hope if this side wins it."""
    sides = sides_at(pool, results, match)
    return {side: chance(pool, {**results, match: side}, chances, question) for side in sides}


def helping(pool, results, chances, question):
    """Return the least of the pairs (match, side) that leave the greatest chance of a hope, or None."""
    best = None
    most = (-1, 1)
    for at in range(len(matches(pool[0]))):
        if at not in results and sides_at(pool, results, at) is not None:
            for side, (top, bottom) in chance_if(pool, results, chances, question, at).items():
                if top * most[1] > most[0] * bottom:
                    best = (at, side)
                    most = (top, bottom)
    return best


def shares(pool, results, chances):
    """Return for each entrant its expected share of a prize of 1 for those with the most points."""
    board = board_of_all(pool, results)
    end, whole = chances_at_end(board, results, chances)
    many = len(pool[3])
    totals = [0] * many
    # Any number of entrants that split the prize divides this number.
    split = factorial(many)
    for lead, weight in end.items():
        first = first_of(points_behind(lead))
        for entrant in first:
            totals[entrant] += weight * (split // len(first))
    return tuple([fraction_of(total, whole * split) for total in totals])
