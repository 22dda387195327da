"""What the document says, worked out in the plainest way: by trying all endings, without the library."""

from fractions import Fraction
from itertools import product


def parts_of(tree):
    """Return the two parts of each match, each ("side", s) or ("match", m)."""
    found = []

    def add(part):
        if isinstance(part, int):
            return ("side", part)
        pair = tuple([add(inner) for inner in part])
        found.append(pair)
        return ("match", len(found) - 1)

    add(tree)
    return found


def inside_of(tree):
    """Return the ascending tuple of the sides in each match."""
    found = []
    for pair in parts_of(tree):
        sides = []
        for kind, number in pair:
            sides.extend([number] if kind == "side" else found[number])
        found.append(tuple(sorted(sides)))
    return found


def two_sides(parts, at, ending):
    """Return the two sides that play a match in an ending."""
    return [number if kind == "side" else ending[number] for kind, number in parts[at]]


def endings_of(pool, results):
    """Return all endings of a pool for results."""
    parts = parts_of(pool[0])
    found = [()]
    for at in range(len(parts)):
        longer = []
        for start in found:
            winners = [results[at]] if at in results else two_sides(parts, at, start)
            longer.extend([start + (winner,) for winner in winners])
        found = longer
    return found


def points_of(pool, ending):
    """Return the points of each entrant."""
    tree, points, bonus, sheets = pool
    parts = parts_of(tree)
    totals = []
    for sheet in sheets:
        total = 0
        for at, named in enumerate(sheet):
            if named == ending[at]:
                total += points[at]
                if ending[at] == max(two_sides(parts, at, ending)):
                    total += bonus
        totals.append(total)
    return tuple(totals)


def is_hope_for(asked, ending):
    """Return whether an ending is a hope for all questions that are asked."""
    for pool, (team, rivals, margin) in asked:
        points = points_of(pool, ending)
        for rival in rivals:
            if sum(points[one] for one in team) - sum(points[one] for one in rival) < margin:
                return False
    return True


def gain_of(asked, at, winner, loser):
    """Return the gain of a match."""
    found = []
    for (_, points, bonus, sheets), (team, rivals, _) in asked:
        brought = points[at] + (bonus if winner > loser else 0)
        for rival in rivals:
            mine = sum(brought for one in team if sheets[one][at] == winner)
            theirs = sum(brought for one in rival if sheets[one][at] == winner)
            found.append(mine - theirs)
    return tuple(found)


def leads_of(asked, results):
    """Return for each match a dict from the sides that can win it to the leads that can come there."""
    pool = asked[0][0]
    parts = parts_of(pool[0])
    found = [{} for _ in parts]
    gains = {}
    for ending in endings_of(pool, results):
        behind = []
        for at, pair in enumerate(parts):
            sides = two_sides(parts, at, ending)
            loser = sides[0] if ending[at] == sides[1] else sides[1]
            key = (at, ending[at], loser)
            if key not in gains:
                gains[key] = gain_of(asked, at, ending[at], loser)
            lead = gains[key]
            for kind, number in pair:
                if kind == "match":
                    lead = tuple([one + other for one, other in zip(lead, behind[number])])
            behind.append(lead)
            found[at].setdefault(ending[at], set()).add(lead)
    return found


def at_most(one, other):
    """Return whether one lead is at most another one."""
    return all(mine <= theirs for mine, theirs in zip(one, other))


def maximal_of(leads):
    """Return the ascending list of the maximal ones of a set of leads."""
    kept = []
    for lead in sorted(leads, reverse=True):
        if not any(at_most(lead, other) for other in kept):
            kept.append(lead)
    return sorted(kept)


def maximal_table(asked, results):
    """Return for each match a dict from the sides that can win it to the maximal leads."""
    return [{side: maximal_of(row[side]) for side in row} for row in leads_of(asked, results)]


def winners_of(tree, results):
    """Return for each match the list of the sides that can win it."""
    found = []
    for at, pair in enumerate(parts_of(tree)):
        both = [[number] if kind == "side" else found[number] for kind, number in pair]
        found.append([results[at]] if at in results else both[0] + both[1])
    return found


def duels_of(tree, results):
    """Return (match, winner, its part, loser, its part) for each way in which a match can be played."""
    winners = winners_of(tree, results)
    found = []
    for at, pair in enumerate(parts_of(tree)):
        both = [[number] if kind == "side" else winners[number] for kind, number in pair]
        for one, other in product(both[0], both[1]):
            for winner, its_part, loser, other_part in ((one, pair[0], other, pair[1]), (other, pair[1], one, pair[0])):
                if winner in winners[at]:
                    found.append((at, winner, its_part, loser, other_part))
    return found


def is_plain(value):
    """Return whether a value is an integer."""
    return isinstance(value, int) and not isinstance(value, bool)


def has_winners(tree, results, value):
    """Return whether a value is a list of dicts from just the sides that can win."""
    winners = winners_of(tree, results)
    if not isinstance(value, list) or len(value) != len(winners):
        return False
    for row, sides in zip(value, winners):
        if not isinstance(row, dict) or not all(is_plain(side) for side in row) or sorted(row) != sorted(sides):
            return False
    return True


def keeps_cover(asked, results, value):
    """Return whether a value is a cover for all questions that are asked."""
    tree = asked[0][0][0]
    margins = [margin for _, (_, rivals, margin) in asked for _ in rivals]
    if not has_winners(tree, results, value):
        return False
    for row in value:
        for leads in row.values():
            if not isinstance(leads, list) or not leads:
                return False
            for lead in leads:
                if not isinstance(lead, tuple) or len(lead) != len(margins) or not all(is_plain(x) for x in lead):
                    return False
    level = [(0,) * len(margins)]
    for at, winner, its_part, loser, other_part in duels_of(tree, results):
        gain = gain_of(asked, at, winner, loser)
        ones = level if its_part[0] == "side" else value[its_part[1]][winner]
        others = level if other_part[0] == "side" else value[other_part[1]][loser]
        for one, other in product(ones, others):
            total = tuple([sum(three) for three in zip(one, other, gain)])
            if not any(at_most(total, lead) for lead in value[at][winner]):
                return False
    return all(not at_most(margins, lead) for leads in value[-1].values() for lead in leads)


def keeps_bounds(pool, results, team, other_team, value, number):
    """Return whether a value is bounds that show a number."""
    if not has_winners(pool[0], results, value):
        return False
    if not all(is_plain(bound) for row in value for bound in row.values()):
        return False
    asked = ((pool, (team, (other_team,), 0)),)
    for at, winner, its_part, loser, other_part in duels_of(pool[0], results):
        one = 0 if its_part[0] == "side" else value[its_part[1]][winner]
        other = 0 if other_part[0] == "side" else value[other_part[1]][loser]
        if one + other + gain_of(asked, at, winner, loser)[0] > value[at][winner]:
            return False
    return max(value[-1].values()) <= number


def place_of(points, entrant):
    """Return the place of an entrant by the points of all."""
    return 1 + sum(1 for number in points if number > points[entrant])


def first_of(points):
    """Return the ascending tuple of the entrants with place 1."""
    return tuple([entrant for entrant in range(len(points)) if place_of(points, entrant) == 1])


def rows_of(pool, results):
    """Return (ending, points) for all endings."""
    return [(ending, points_of(pool, ending)) for ending in endings_of(pool, results)]


def hopes_of(pool, results, question):
    """Return all hopes."""
    return [ending for ending in endings_of(pool, results) if is_hope_for(((pool, question),), ending)]


def hopes_by_gains(pool, results, question):
    """Return all hopes, quickly enough for sixteen sides."""
    asked = ((pool, question),)
    parts = parts_of(pool[0])
    gains = {duel[:2] + (duel[3],): gain_of(asked, duel[0], duel[1], duel[3]) for duel in duels_of(pool[0], results)}
    found = []
    for ending in endings_of(pool, results):
        # One of the two sides is the winner, so the rest of their sum is the loser.
        rows = [gains[(at, winner, sum(two_sides(parts, at, ending)) - winner)] for at, winner in enumerate(ending)]
        if all([sum(numbers) >= question[2] for numbers in zip(*rows)]):
            found.append(ending)
    return found


def musts_of(results, hopes):
    """Return the pairs (match, side) that all hopes share and the results do not name, or None."""
    if not hopes:
        return None
    shared = set(enumerate(hopes[0]))
    for hope in hopes:
        shared &= set(enumerate(hope))
    return sorted([pair for pair in shared if pair[0] not in results])


def longer_results(pool, results):
    """Return all results, as dicts, that have these ones in them, with those of fewer matches first."""
    parts = parts_of(pool[0])
    found = set()
    for ending in endings_of(pool, results):
        due = [frozenset()]
        for at, pair in enumerate(parts):
            both = [{number} if kind == "match" else set() for kind, number in pair]
            more = [named | {at} for named in due if both[0] | both[1] <= named]
            due = more if at in results else due + more
        found.update([tuple([(at, ending[at]) for at in sorted(named)]) for named in due])
    return sorted([dict(pairs) for pairs in found], key=len)


def fewest_more(pool, results, question):
    """Return how many results settle a question with these ones in them, or None."""
    hopes = set(hopes_of(pool, results, question))
    for longer in longer_results(pool, results):
        if all(ending in hopes for ending in endings_of(pool, longer)):
            return len(longer)
    return None


def chance_of(pool, results, chances, ending):
    """Return the chance of an ending, as a Fraction."""
    parts = parts_of(pool[0])
    total = Fraction(1)
    for at, winner in enumerate(ending):
        if at not in results:
            low, high = sorted(two_sides(parts, at, ending))
            share = Fraction(*chances[(low, high)])
            total *= share if winner == low else 1 - share
    return total


def pair_of(share):
    """Return a Fraction as a tuple in lowest terms."""
    return (share.numerator, share.denominator)


def chance_for(pool, results, chances, question):
    """Return the chance of a hope, as a Fraction."""
    hopes = hopes_of(pool, results, question)
    return sum([chance_of(pool, results, chances, ending) for ending in hopes], Fraction(0))


def known_sides(pool, results, at):
    """Return the ascending list of both sides of a match that the results do not name, or None if not known."""
    both = []
    for kind, number in parts_of(pool[0])[at]:
        both.append(number if kind == "side" else results.get(number))
    return None if at in results or None in both else sorted(both)


def counts_of(asked, results):
    """Return for each match a dict from the sides that can win it to dicts from the leads to numbers of ways.

    This goes match by match, for trees that have too many endings; it is itself compared with leads_of.
    """
    found = [{side: {} for side in sides} for sides in winners_of(asked[0][0][0], results)]
    nothing = tuple([0 for _, (_, rivals, _) in asked for _ in rivals])
    for at, winner, its_part, loser, other_part in duels_of(asked[0][0][0], results):
        gain = gain_of(asked, at, winner, loser)
        ones = {nothing: 1} if its_part[0] == "side" else found[its_part[1]][winner]
        others = {nothing: 1} if other_part[0] == "side" else found[other_part[1]][loser]
        for (one, many), (other, more) in product(ones.items(), others.items()):
            lead = tuple([sum(three) for three in zip(one, other, gain)])
            found[at][winner][lead] = found[at][winner].get(lead, 0) + many * more
    return found


def best_margin(pool, results, team, rivals):
    """Return the greatest margin with which there is a hope, or 200 without rivals."""
    leads = counts_of(((pool, (team, rivals, 0)),), results)[-1]
    return max([min((*lead, 200)) for row in leads.values() for lead in row])


def chances_to_win(tree, results, chances):
    """Return for each match a dict from the sides that can win it to the chance of it, as a Fraction."""
    found = [{side: Fraction(0) for side in sides} for sides in winners_of(tree, results)]
    for at, winner, its_part, loser, other_part in duels_of(tree, results):
        its_chance = Fraction(1) if its_part[0] == "side" else found[its_part[1]][winner]
        other_chance = Fraction(1) if other_part[0] == "side" else found[other_part[1]][loser]
        share = Fraction(*chances[(min(winner, loser), max(winner, loser))])
        duel = 1 if at in results else share if winner < loser else 1 - share
        found[at][winner] += its_chance * other_chance * duel
    return found
