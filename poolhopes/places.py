"""Places of the entrants: the best, the worst, and who can have the first one."""

from poolhopes.leads import Board, ending_with, ends_of, maximal_table


def place_of(points, entrant):
    """Return the place of an entrant by the points of all."""
    return 1 + len([number for number in points if number > points[entrant]])


def first_of(points):
    """Return the ascending tuple of the entrants with place 1 by the points of all."""
    most = max(points)
    return tuple([entrant for entrant, number in enumerate(points) if number == most])


def others_of(pool, entrant):
    """Return the teams of one of all entrants but this one."""
    return tuple([(other,) for other in range(len(pool[3])) if other != entrant])


def best_place(pool, results, entrant):
    """Return the least place of an entrant over all endings, and an ending with it."""
    board = Board(((pool, ((entrant,), others_of(pool, entrant), 0)),), results)
    table = maximal_table(board)
    # Greater leads never mean a greater place, so the maximal ones are enough.
    ends = [(len([number for number in lead if number < 0]), side, lead) for side, lead in ends_of(board, table)]
    ahead, side, lead = min(ends)
    return (1 + ahead, ending_with(board, table, side, lead))


def worst_place(pool, results, entrant):
    """Return the greatest place of an entrant over all endings, and an ending with it."""
    chasing = [(pool, (other, ((entrant,),), 0)) for other in others_of(pool, entrant)]
    # The first question has no rivals and brings no integers: it gives the tree where nobody else plays along.
    board = Board(((pool, ((entrant,), (), 0)), *chasing), results)
    table = maximal_table(board)
    ends = [(len([number for number in lead if number > 0]), side, lead) for side, lead in ends_of(board, table)]
    ahead, side, lead = max(ends)
    return (1 + ahead, ending_with(board, table, side, lead))


def hopeful(pool, results):
    """Return the ascending list of the entrants that have place 1 in some ending."""
    bests = [best_place(pool, results, entrant) for entrant in range(len(pool[3]))]
    return [entrant for entrant, (place, _) in enumerate(bests) if place == 1]
