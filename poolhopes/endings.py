"""Endings of a pool, and the points behind them."""

from poolhopes.trees import is_int, matches


def is_ending(pool, results, value):
    """Return whether any value is an ending of a pool for results."""
    parts = matches(pool[0])
    if not isinstance(value, tuple) or len(value) != len(parts):
        return False
    if not all([is_int(side) for side in value]):
        return False
    for at, (first, second) in enumerate(parts):
        if value[at] not in (side_behind(first, value), side_behind(second, value)):
            return False
        if value[at] != results.get(at, value[at]):
            return False
    return True


def side_behind(part, ending):
    """Return the side that a part of a match is in an ending."""
    kind, number = part
    return number if kind == "side" else ending[number]


def worth_of(pool, at, winner, loser):
    """Return what the right name for a match brings if one side wins it over another."""
    _, points, bonus, _ = pool
    return points[at] + (bonus if winner > loser else 0)


def scores(pool, ending):
    """Return the points of each entrant behind an ending."""
    tree, _, _, sheets = pool
    totals = [0] * len(sheets)
    for at, (first, second) in enumerate(matches(tree)):
        winner = ending[at]
        # One of the two is the winner, so what is left of their sum is the loser.
        loser = side_behind(first, ending) + side_behind(second, ending) - winner
        brought = worth_of(pool, at, winner, loser)
        for entrant, sheet in enumerate(sheets):
            if sheet[at] == winner:
                totals[entrant] += brought
    return tuple(totals)


def count_endings(pool, results):
    """Return the number of endings of a pool for results."""
    # Whatever came before, each match without a name can end in two ways.
    return 1 << (len(matches(pool[0])) - len(results))


def all_endings(pool, results):
    """Return the list of all endings of a pool for results."""
    found = [()]
    for at, pair in enumerate(matches(pool[0])):
        longer = []
        for start in found:
            winners = [results[at]] if at in results else [side_behind(part, start) for part in pair]
            longer.extend([(*start, winner) for winner in winners])
        found = longer
    return found
