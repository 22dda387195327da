"""What the document says, worked out in the plainest way: by trying all endings, without the library."""

from itertools import product


def parts_of(tree):
    """Return the two parts of each match, each ("side", s) or ("match", m)."""
    found = []

    def add(part):
        if isinstance(part, int):
            return ("side", part)
        pair = tuple([add(inner) for inner in part])
        found.append(pair)
        return ("match", len(found) - 1)

    add(tree)
    return found


def inside_of(tree):
    """Return the ascending tuple of the sides in each match."""
    found = []
    for pair in parts_of(tree):
        sides = []
        for kind, number in pair:
            sides.extend([number] if kind == "side" else found[number])
        found.append(tuple(sorted(sides)))
    return found


def two_sides(parts, at, ending):
    """Return the two sides that play a match in an ending."""
    return [number if kind == "side" else ending[number] for kind, number in parts[at]]


def endings_of(pool, results):
    """Return all endings of a pool for results."""
    parts = parts_of(pool[0])
    found = [()]
    for at in range(len(parts)):
        longer = []
        for start in found:
            winners = [results[at]] if at in results else two_sides(parts, at, start)
            longer.extend([start + (winner,) for winner in winners])
        found = longer
    return found


def points_of(pool, ending):
    """Return the points of each entrant."""
    tree, points, bonus, sheets = pool
    parts = parts_of(tree)
    totals = []
    for sheet in sheets:
        total = 0
        for at, named in enumerate(sheet):
            if named == ending[at]:
                total += points[at]
                if ending[at] == max(two_sides(parts, at, ending)):
                    total += bonus
        totals.append(total)
    return tuple(totals)


def is_hope_for(asked, ending):
    """Return whether an ending is a hope for all questions that are asked."""
    for pool, (team, rivals, margin) in asked:
        points = points_of(pool, ending)
        for rival in rivals:
            if sum(points[one] for one in team) - sum(points[one] for one in rival) < margin:
                return False
    return True


def gain_of(asked, at, winner, loser):
    """Return the gain of a match."""
    found = []
    for (_, points, bonus, sheets), (team, rivals, _) in asked:
        brought = points[at] + (bonus if winner > loser else 0)
        for rival in rivals:
            mine = sum(brought for one in team if sheets[one][at] == winner)
            theirs = sum(brought for one in rival if sheets[one][at] == winner)
            found.append(mine - theirs)
    return tuple(found)


def leads_of(asked, results):
    """Return for each match a dict from the sides that can win it to the leads that can come there."""
    pool = asked[0][0]
    parts = parts_of(pool[0])
    found = [{} for _ in parts]
    gains = {}
    for ending in endings_of(pool, results):
        behind = []
        for at, pair in enumerate(parts):
            sides = two_sides(parts, at, ending)
            loser = sides[0] if ending[at] == sides[1] else sides[1]
            key = (at, ending[at], loser)
            if key not in gains:
                gains[key] = gain_of(asked, at, ending[at], loser)
            lead = gains[key]
            for kind, number in pair:
                if kind == "match":
                    lead = tuple([one + other for one, other in zip(lead, behind[number])])
            behind.append(lead)
            found[at].setdefault(ending[at], set()).add(lead)
    return found


def at_most(one, other):
    """Return whether one lead is at most another one."""
    return all(mine <= theirs for mine, theirs in zip(one, other))


def maximal_of(leads):
    """Return the ascending list of the maximal ones of a set of leads."""
    kept = []
    for lead in sorted(leads, reverse=True):
        if not any(at_most(lead, other) for other in kept):
            kept.append(lead)
    return sorted(kept)


def maximal_table(asked, results):
    """Return for each match a dict from the sides that can win it to the maximal leads."""
    return [{side: maximal_of(row[side]) for side in row} for row in leads_of(asked, results)]


def winners_of(tree, results):
    """Return for each match the list of the sides that can win it."""
    found = []
    for at, pair in enumerate(parts_of(tree)):
        both = [[number] if kind == "side" else found[number] for kind, number in pair]
        found.append([results[at]] if at in results else both[0] + both[1])
    return found


def duels_of(tree, results):
    """Return (match, winner, its part, loser, its part) for each way in which a match can be played."""
    winners = winners_of(tree, results)
    found = []
    for at, pair in enumerate(parts_of(tree)):
        both = [[number] if kind == "side" else winners[number] for kind, number in pair]
        for one, other in product(both[0], both[1]):
            for winner, its_part, loser, other_part in ((one, pair[0], other, pair[1]), (other, pair[1], one, pair[0])):
                if winner in winners[at]:
                    found.append((at, winner, its_part, loser, other_part))
    return found


def is_plain(value):
    """Return whether a value is an integer."""
    return isinstance(value, int) and not isinstance(value, bool)


def has_winners(tree, results, value):
    """Return whether a value is a list of dicts from just the sides that can win."""
    winners = winners_of(tree, results)
    if not isinstance(value, list) or len(value) != len(winners):
        return False
    for row, sides in zip(value, winners):
        if not isinstance(row, dict) or not all(is_plain(side) for side in row) or sorted(row) != sorted(sides):
            return False
    return True


def keeps_cover(asked, results, value):
    """Return whether a value is a cover for all questions that are asked."""
    tree = asked[0][0][0]
    margins = [margin for _, (_, rivals, margin) in asked for _ in rivals]
    if not has_winners(tree, results, value):
        return False
    for row in value:
        for leads in row.values():
            if not isinstance(leads, list) or not leads:
                return False
            for lead in leads:
                if not isinstance(lead, tuple) or len(lead) != len(margins) or not all(is_plain(x) for x in lead):
                    return False
    level = [(0,) * len(margins)]
    for at, winner, its_part, loser, other_part in duels_of(tree, results):
        gain = gain_of(asked, at, winner, loser)
        ones = level if its_part[0] == "side" else value[its_part[1]][winner]
        others = level if other_part[0] == "side" else value[other_part[1]][loser]
        for one, other in product(ones, others):
            total = tuple([sum(three) for three in zip(one, other, gain)])
            if not any(at_most(total, lead) for lead in value[at][winner]):
                return False
    return all(not at_most(margins, lead) for leads in value[-1].values() for lead in leads)


def keeps_bounds(pool, results, team, other_team, value, number):
    """Return whether a value is bounds that show a number."""
    if not has_winners(pool[0], results, value):
        return False
    if not all(is_plain(bound) for row in value for bound in row.values()):
        return False
    asked = ((pool, (team, (other_team,), 0)),)
    for at, winner, its_part, loser, other_part in duels_of(pool[0], results):
        one = 0 if its_part[0] == "side" else value[its_part[1]][winner]
        other = 0 if other_part[0] == "side" else value[other_part[1]][loser]
        if one + other + gain_of(asked, at, winner, loser)[0] > value[at][winner]:
            return False
    return max(value[-1].values()) <= number
