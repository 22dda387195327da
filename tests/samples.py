"""Values that several tests use: the examples of the document, pools at the edges, random pools."""

from fractions import Fraction

POOL = (((0, 3), (1, 2)), (1, 1, 2), 1, ((0, 1, 0), (3, 2, 2), (0, 2, 2)))
FIRST = ((1,), ((0,), (2,)), 0)
OTHER = (((0, 3), (1, 2)), (1, 1, 1), 0, ((3, 1, 1), (0, 2, 2)))
BOTH = ((POOL, FIRST), (OTHER, ((0,), ((1,),), 1)))
EVEN = {(0, 1): (1, 2), (0, 2): (1, 2), (0, 3): (1, 2), (1, 2): (1, 2), (1, 3): (1, 2), (2, 3): (1, 2)}

# Five sides, so that a side enters late, and some matches of others stand before its first one.
LATE = ((4, ((0, 3), (2, 1))), (2, 0, 3, 5), 2, ((0, 2, 0, 0), (3, 1, 1, 4), (0, 1, 3, 4), (3, 2, 2, 2)))

# A chain of thirteen sides: at its final, some side has exactly 300 maximal leads, and none has more.
CHAIN_300 = (
    (11, (10, (8, (12, (5, (9, (0, (2, (7, (6, (1, (4, 3)))))))))))),
    (17, 6, 20, 9, 13, 12, 4, 5, 3, 2, 1, 5), 5,
    ((4, 3, 3, 7, 3, 6, 1, 4, 1, 12, 10, 4), (4, 1, 1, 1, 6, 0, 6, 0, 7, 5, 7, 0),
     (3, 1, 6, 6, 7, 7, 7, 2, 0, 8, 4, 7), (3, 3, 4, 3, 3, 1, 3, 5, 9, 12, 0, 4),
     (3, 4, 6, 6, 2, 2, 9, 9, 12, 0, 5, 11)))
# The same, but with exactly 301.
CHAIN_301 = (
    (11, (10, (8, (12, (5, (9, (0, (2, (7, (6, (1, (4, 3)))))))))))),
    (17, 8, 20, 9, 13, 12, 4, 5, 3, 2, 1, 2), 6,
    ((4, 1, 3, 7, 3, 6, 1, 4, 1, 12, 10, 9), (4, 1, 1, 1, 6, 0, 6, 0, 2, 5, 7, 8),
     (3, 1, 6, 3, 7, 7, 7, 2, 0, 8, 7, 3), (3, 3, 4, 3, 3, 4, 3, 5, 9, 12, 4, 4),
     (3, 4, 6, 6, 2, 2, 9, 9, 12, 9, 0, 11)))
# A balanced tree of sixteen sides with exactly 300 at the final.
EVEN_300 = (
    ((((4, 11), (10, 13)), ((12, 3), (6, 0))), (((1, 15), (14, 5)), ((2, 8), (9, 7)))),
    (9, 3, 4, 13, 20, 7, 11, 15, 20, 12, 0, 14, 2, 1, 14), 1,
    ((4, 10, 11, 3, 0, 12, 6, 15, 5, 14, 2, 9, 8, 5, 5), (11, 10, 11, 3, 6, 6, 10, 15, 5, 5, 2, 9, 8, 8, 7),
     (4, 10, 4, 3, 0, 3, 12, 15, 5, 5, 2, 9, 7, 7, 11), (4, 13, 4, 3, 0, 12, 13, 1, 14, 15, 8, 7, 2, 1, 7),
     (4, 10, 10, 12, 0, 0, 11, 15, 14, 15, 2, 9, 9, 8, 12)))
FOUR_RIVALS = ((0,), ((1,), (2,), (3,), (4,)), 0)

# Two pools on a chain of eleven sides, with 300 and with 301 maximal leads of both questions together.
TALL = (1, (10, (3, (9, (8, (4, (7, (0, (6, (2, 5))))))))))
TWO_RIVALS = ((0,), ((1,), (2,)), 0)
JOINT_300 = (
    ((TALL, (5, 19, 12, 8, 6, 14, 6, 13, 3, 6), 1,
      ((5, 2, 6, 5, 5, 6, 9, 8, 9, 10), (2, 2, 2, 2, 6, 8, 0, 7, 3, 7), (5, 6, 6, 7, 4, 5, 2, 4, 10, 2))), TWO_RIVALS),
    ((TALL, (5, 16, 3, 8, 0, 10, 17, 15, 5, 14), 2,
      ((2, 6, 0, 2, 4, 8, 2, 4, 7, 2), (2, 2, 6, 0, 7, 6, 9, 9, 8, 3), (5, 5, 2, 6, 7, 6, 8, 8, 6, 1))), TWO_RIVALS))
JOINT_301 = (
    ((TALL, (5, 19, 12, 8, 6, 15, 7, 17, 3, 4), 1,
      ((5, 2, 6, 5, 5, 6, 9, 8, 9, 10), (2, 2, 2, 2, 6, 8, 0, 7, 3, 5), (5, 6, 6, 7, 4, 5, 2, 4, 10, 6))), TWO_RIVALS),
    ((TALL, (5, 11, 3, 13, 0, 11, 16, 15, 2, 2), 2,
      ((2, 6, 0, 2, 4, 8, 2, 4, 7, 2), (2, 2, 6, 0, 6, 2, 9, 9, 8, 3), (5, 5, 2, 6, 7, 6, 8, 8, 4, 1))), TWO_RIVALS))

# Pools in which entrant 0 has exactly 300 and 301 maximal leads turned about: those of all others over it.
WORST_300 = (
    (8, (12, (0, (11, (5, (3, (6, (7, (10, (4, (1, (9, 2)))))))))))),
    (0, 2, 19, 20, 5, 14, 7, 18, 5, 8, 1, 11), 2,
    ((2, 1, 1, 9, 10, 10, 1, 1, 9, 7, 6, 5), (2, 2, 2, 2, 4, 4, 6, 7, 9, 11, 11, 12),
     (9, 1, 4, 9, 7, 7, 7, 9, 7, 4, 5, 1), (2, 9, 1, 4, 4, 9, 2, 6, 6, 5, 12, 6),
     (2, 1, 9, 10, 10, 6, 3, 5, 5, 0, 9, 0)))
WORST_301 = (
    (8, (12, (0, (11, (5, (3, (6, (7, (10, (4, (1, (9, 2)))))))))))),
    (0, 2, 19, 20, 5, 14, 7, 18, 5, 8, 1, 9), 2,
    ((2, 1, 1, 9, 10, 10, 1, 1, 9, 7, 6, 5), (2, 2, 2, 2, 4, 4, 6, 7, 9, 11, 11, 12),
     (9, 1, 4, 9, 7, 7, 7, 9, 5, 4, 5, 1), (2, 9, 1, 4, 4, 9, 2, 6, 6, 5, 12, 6),
     (9, 1, 9, 10, 10, 6, 3, 5, 3, 0, 9, 0)))

# Chains of fourteen sides: at its final, some side has exactly 2,000 and 2,001 different leads of entrant 0 over all
# others, and so as many different rows of points, the least number taken off each row.
LEADS_2000 = (
    (13, (10, (0, (12, (6, (5, (3, (8, (7, (11, (4, (1, (9, 2))))))))))))),
    (14, 9, 8, 13, 20, 2, 11, 14, 15, 2, 10, 10, 20), 1,
    ((9, 2, 2, 9, 2, 1, 2, 3, 9, 9, 3, 5, 5), (2, 2, 4, 1, 7, 11, 11, 5, 5, 2, 9, 4, 7),
     (2, 2, 9, 1, 9, 8, 7, 1, 7, 11, 11, 2, 3), (9, 9, 2, 9, 9, 9, 4, 2, 8, 12, 12, 6, 2),
     (2, 9, 2, 1, 7, 9, 8, 7, 4, 5, 6, 7, 9)))
LEADS_2001 = (
    (13, (10, (0, (12, (6, (5, (3, (8, (7, (11, (4, (1, (9, 2))))))))))))),
    (16, 3, 8, 20, 18, 3, 5, 12, 12, 10, 10, 1, 12), 8,
    ((2, 2, 9, 1, 2, 1, 2, 3, 9, 1, 3, 5, 2), (2, 1, 9, 2, 1, 11, 9, 5, 5, 2, 9, 4, 3),
     (2, 1, 4, 1, 9, 11, 11, 7, 7, 11, 11, 2, 7), (9, 1, 2, 1, 1, 9, 4, 4, 8, 12, 12, 6, 0),
     (2, 2, 1, 9, 7, 8, 7, 1, 9, 7, 6, 7, 12)))
# The same on balanced trees of sixteen sides.
EVEN_2000 = (
    ((((4, 9), (13, 12)), ((1, 15), (11, 7))), (((8, 3), (5, 6)), ((14, 0), (10, 2)))),
    (20, 16, 17, 7, 17, 8, 6, 0, 7, 8, 10, 17, 6, 10, 17), 3,
    ((9, 12, 9, 1, 7, 7, 12, 8, 5, 6, 0, 2, 2, 6, 0), (4, 13, 9, 15, 7, 11, 13, 8, 6, 6, 14, 2, 0, 0, 14),
     (4, 13, 9, 15, 7, 11, 7, 8, 6, 6, 0, 2, 0, 14, 15), (9, 13, 4, 1, 7, 11, 9, 3, 5, 5, 14, 10, 10, 0, 12),
     (9, 12, 9, 15, 11, 11, 4, 3, 5, 6, 14, 2, 2, 2, 15)))
EVEN_2001 = (
    ((((4, 9), (13, 12)), ((1, 15), (11, 7))), (((8, 3), (5, 6)), ((14, 0), (10, 2)))),
    (8, 12, 15, 2, 9, 12, 8, 20, 20, 17, 4, 0, 4, 4, 15), 5,
    ((4, 12, 13, 1, 11, 7, 1, 3, 5, 8, 0, 10, 14, 5, 13), (9, 13, 4, 15, 11, 11, 1, 8, 6, 3, 0, 2, 10, 10, 12),
     (4, 13, 4, 1, 7, 7, 1, 8, 5, 5, 0, 10, 14, 2, 15), (4, 13, 9, 15, 11, 7, 13, 3, 6, 8, 14, 10, 0, 3, 10),
     (9, 12, 12, 1, 11, 11, 12, 8, 6, 3, 0, 10, 10, 0, 0)))


def deep(innermost, many, kind):
    """Return a value nested so deep in lists, tuples or dicts of one item."""
    value = innermost
    for _ in range(many):
        value = {0: value} if kind is dict else kind([value])
    return value


def leaning(many, first):
    """Return pairs nested so deep, all in the first or all in the second part."""
    value = 0
    for side in range(1, many + 1):
        value = (value, side) if first else (side, value)
    return value


def junk():
    """Return new values of every kind, none of which is of a kind that the library asks about."""
    return [
        None, True, False, 0, 1, -1, 7, 10 ** 29, -10 ** 29, "", "0", "tree", "x" * 200, "0 1 0",
        (), [], {}, (0,), [0], {0: False}, {None: None}, {"0": "0"}, {(): ()}, ((),), [[]], [{}], [()], ([],), ({},),
        (None, None), (True, False), ("0", "1"), ((0, 1), "1"), [0, 1], [[0, 1], [2, 3]], {0: {0: {0: 0}}},
        (0,) * 40, [0] * 40, ((),) * 40, [{}] * 40, [{0: []}] * 3, list(range(40000)), tuple(range(40000)),
        {number: number for number in range(20000)}, deep(0, 20, tuple), deep(0, 20, list), deep(0, 20, dict),
        deep(0, 100, tuple), deep(0, 100, list), deep(0, 100, dict), leaning(100, True), leaning(100, False),
    ]


def twists(value):
    """Return copies of a value with one integer, list, tuple or dict in it of a wrong kind."""
    if isinstance(value, bool) or value is None or isinstance(value, str):
        return []
    if isinstance(value, int):
        return [None, str(value), (value,), [value]] + ([bool(value)] if value in (0, 1) else [])
    if isinstance(value, dict):
        found = [None, list(value.items()), tuple(value.items()), sorted(value)]
        for key in value:
            rest = {other: value[other] for other in value if other != key}
            found.extend([{**rest, key: twisted} for twisted in twists(value[key])])
            found.extend([{**rest, twisted: value[key]} for twisted in (None, str(key), (key,))])
            if key in (0, 1):
                found.append({**rest, bool(key): value[key]})
        return found
    kind, other_kind = (tuple, list) if isinstance(value, tuple) else (list, tuple)
    found = [None, other_kind(value), dict(enumerate(value))]
    for at, part in enumerate(value):
        found.extend([kind([*value[:at], twisted, *value[at + 1:]]) for twisted in twists(part)])
    return found


def random_tree(source, many):
    """Return a random tree for so many sides."""
    parts = list(range(many))
    source.shuffle(parts)
    while len(parts) > 1:
        first = parts.pop(source.randrange(len(parts)))
        second = parts.pop(source.randrange(len(parts)))
        parts.append((first, second))
    return parts[0]


def chain_tree(many):
    """Return a tree in which the sides enter one after the other."""
    return leaning(many - 1, True)


def even_tree(sides):
    """Return a tree that halves the sides in each match."""
    half = len(sides) // 2
    return sides[0] if len(sides) == 1 else (even_tree(sides[:half]), even_tree(sides[half:]))


def random_pool(source, tree, inside, entrants, most=20):
    """Return a random pool on a tree, with these sides inside its matches."""
    points = tuple([source.randint(0, most) for _ in inside])
    sheets = tuple([tuple([source.choice(sides) for sides in inside]) for _ in range(entrants)])
    return (tree, points, source.choice((0, 0, 1, 2, 9)), sheets)


def random_chances(source, many, bottoms=(2, 3, 10)):
    """Return random chances for so many sides, some of them 0 and 1."""
    found = {}
    for one in range(many):
        for other in range(one + 1, many):
            bottom = source.choice(bottoms)
            share = Fraction(source.choice((0, bottom, *[source.randint(0, bottom) for _ in range(4)])), bottom)
            found[(one, other)] = (share.numerator, share.denominator)
    return found


def split_first(pool):
    """Return a pool in which the first side of the first match has to play a new last side ahead of it.

    All named the old one there; the new side is named by nobody.
    """
    tree, points, bonus, sheets = pool
    first = tree
    while not isinstance(first, int):
        first = first[1] if isinstance(first[0], int) and not isinstance(first[1], int) else first[0]
    new = len(points) + 1
    return (with_side(tree, first, (first, new)), (1, *points), bonus, tuple([(first, *sheet) for sheet in sheets]))


def hidden_301():
    """Return a pool that goes far over 300 maximal leads only if the new side 13 loses the first match.

    If it wins there, that is so much better for entrant 0 that few leads stay maximal.
    """
    tree, points, bonus, sheets = CHAIN_301
    starts = (13, 2, 2, 2, 2)
    longer = tuple([(start, *sheet) for start, sheet in zip(starts, sheets)])
    return (with_side(tree, 2, (2, 13)), (20, *points), bonus, longer)


def with_side(tree, side, other):
    """Return a tree with another tree in the place of a side."""
    if isinstance(tree, int):
        return other if tree == side else tree
    return tuple([with_side(part, side, other) for part in tree])


def random_team(source, entrants):
    """Return a random team."""
    return tuple(sorted(source.sample(range(entrants), source.choice((1, 1, 1, min(2, entrants), entrants)))))


def random_question(source, entrants, margin=6):
    """Return a random question about a pool with so many entrants."""
    rivals = tuple([random_team(source, entrants) for _ in range(source.randint(0, 4))])
    return (random_team(source, entrants), rivals, source.randint(-margin, margin))


def random_results(source, parts, many):
    """Return results that name about so many matches, put in in random order of the matches that are due."""
    results = {}
    while len(results) < min(many, len(parts)):
        due = []
        for at, pair in enumerate(parts):
            if at not in results and all(kind == "side" or number in results for kind, number in pair):
                due.append(at)
        at = source.choice(due)
        results[at] = source.choice([number if kind == "side" else results[number] for kind, number in parts[at]])
    return results
