"""Questions about a pool, and hopes."""

from poolhopes.endings import is_ending, scores
from poolhopes.leads import Board, find_ending, maximal_table
from poolhopes.pools import is_within

MOST_RIVALS = 4
MOST_MARGIN = 200


def is_question(pool, value):
    """Return whether any value is a question about a pool."""
    if not isinstance(value, tuple) or len(value) != 3:
        return False
    team, rivals, margin = value
    if not isinstance(rivals, tuple) or len(rivals) > MOST_RIVALS:
        return False
    many = len(pool[3])
    return all([is_team(one, many) for one in (team, *rivals)]) and is_within(margin, -MOST_MARGIN, MOST_MARGIN)


def is_team(value, many):
    """Return whether any value is a team out of so many entrants."""
    if not isinstance(value, tuple) or not 1 <= len(value) <= many:
        return False
    if not all([is_within(entrant, 0, many - 1) for entrant in value]):
        return False
    return all([one < other for one, other in zip(value, value[1:])])


def is_hope(pool, results, question, value):
    """Return whether any value is a hope."""
    if not is_ending(pool, results, value):
        return False
    return reaches(scores(pool, value), question)


def reaches(points, question):
    """Return whether the points of all entrants are those of a hope."""
    team, rivals, margin = question
    mine = points_of(points, team)
    return all([mine - points_of(points, rival) >= margin for rival in rivals])


def points_of(points, team):
    """Return the points of a team."""
    return sum([points[entrant] for entrant in team])


def maximal_leads(pool, results, question):
    """Return for each match a dict from the sides that can win it to the maximal leads."""
    return maximal_table(Board(((pool, question),), results))


def find_hope(pool, results, question):
    """Return a hope, or None if there is none."""
    return find_ending(((pool, question),), results)
