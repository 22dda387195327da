"""Trees of matches."""

FEWEST_SIDES = 2
MOST_SIDES = 16


def is_int(value):
    """Return whether a value is an int that is not a bool."""
    return isinstance(value, int) and not isinstance(value, bool)


def is_tree(value):
    """Return whether any value is a tree for some number of sides from 2 to 16."""
    sides = []
    waiting = [value]
    # Counting the sides on the way ends the walk early in a value that is far too large.
    while waiting and len(sides) <= MOST_SIDES:
        part = waiting.pop()
        if isinstance(part, tuple) and len(part) == 2:
            waiting.extend(part)
        elif is_int(part):
            sides.append(part)
        else:
            return False
    return FEWEST_SIDES <= len(sides) <= MOST_SIDES and sorted(sides) == list(range(len(sides)))


def matches(tree):
    """Return for each match its two parts, each ("side", s) or ("match", m)."""
    found = []
    add_matches(found, tree)
    return found


def add_matches(found, tree):
    """Append the matches of a tree to those found, and return the part that the tree is."""
    if is_int(tree):
        return ("side", tree)
    first = add_matches(found, tree[0])
    second = add_matches(found, tree[1])
    found.append((first, second))
    return ("match", len(found) - 1)


def sides_of(tree):
    """Return for each match the ascending tuple of the sides in it."""
    found = []
    for first, second in matches(tree):
        found.append(tuple(sorted(sides_in(first, found) + sides_in(second, found))))
    return found


def sides_in(part, found):
    """Return the sides in a part of a match, if those of each earlier match are found."""
    kind, number = part
    return (number,) if kind == "side" else found[number]
