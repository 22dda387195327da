"""Pools on a tree, and the results of its matches."""

from poolhopes.trees import is_int, is_tree, matches, sides_of

MOST_POINTS = 20
MOST_BONUS = 9
MOST_SHEETS = 5


def is_within(value, low, high):
    """Return whether any value is an integer from low to high."""
    return is_int(value) and low <= value <= high


def is_pool(value):
    """Return whether any value is a pool."""
    if not isinstance(value, tuple) or len(value) != 4 or not is_tree(value[0]):
        return False
    tree, points, bonus, sheets = value
    inside = sides_of(tree)
    return are_points(points, len(inside)) and is_within(bonus, 0, MOST_BONUS) and are_sheets(sheets, inside)


def are_points(value, many):
    """Return whether any value is a tuple with the points of so many matches."""
    if not isinstance(value, tuple) or len(value) != many:
        return False
    return all([is_within(number, 0, MOST_POINTS) for number in value])


def are_sheets(value, inside):
    """Return whether any value is a tuple of sheets, with these sides in the matches."""
    if not isinstance(value, tuple) or not 1 <= len(value) <= MOST_SHEETS:
        return False
    return all([is_sheet(sheet, inside) for sheet in value])


def is_sheet(value, inside):
    """Return whether any value is a sheet, with these sides in the matches."""
    if not isinstance(value, tuple) or len(value) != len(inside):
        return False
    return all([is_int(side) and side in sides for side, sides in zip(value, inside)])


def are_results(pool, value):
    """Return whether any value is results of a pool."""
    parts = matches(pool[0])
    if not isinstance(value, dict):
        return False
    # True is found under 1 in a dict, so the kinds come first.
    if not all([is_within(at, 0, len(parts) - 1) and is_int(side) for at, side in value.items()]):
        return False
    return all([is_won_by_a_part(parts[at], value, value[at]) for at in value])


def is_won_by_a_part(pair, results, winner):
    """Return whether both parts of a match are known by the results, and the winner is one of them."""
    known = [known_side(part, results) for part in pair]
    return None not in known and winner in known


def known_side(part, results):
    """Return the side that a part of a match is by the results, or None if they leave it open."""
    kind, number = part
    return number if kind == "side" else results.get(number)


def sides_at(pool, results, match):
    """Return the ascending list of the two sides of a match, or None if a part is not known by the results."""
    known = [known_side(part, results) for part in matches(pool[0])[match]]
    return None if None in known else sorted(known)


def has_just_pairs(pool, value):
    """Return whether any value is a dict from just the pairs of sides of a pool, the lesser one first."""
    sides = range(len(matches(pool[0])) + 1)
    pairs = [(one, other) for one in sides for other in sides if one < other]
    if not isinstance(value, dict) or len(value) != len(pairs):
        return False
    # Bools are found under 0 and 1 in a dict, so the kinds come first.
    return all([is_pair(key) for key in value]) and sorted(value) == pairs


def is_pair(value):
    """Return whether any value is a tuple of two integers."""
    return isinstance(value, tuple) and len(value) == 2 and all([is_int(side) for side in value])
