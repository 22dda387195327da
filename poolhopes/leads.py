"""Leads, match by match: what the modules that search through leads share.

What is ASKED is a tuple of (pool, question), as in a joint question. A TABLE is a list with, for each match,
a dict from the sides that can win it to lists of leads.
"""

from poolhopes.endings import worth_of
from poolhopes.errors import TooMany
from poolhopes.trees import is_int, matches

MOST_MAXIMAL = 300


class Board:
    """The matches as they can still be played by the results, with what they bring."""

    def __init__(self, asked, results):
        tree = asked[0][0][0]
        self.parts = matches(tree)
        self.final = ("match", len(self.parts) - 1) if self.parts else ("side", tree)
        self.margins = margins_of(asked)
        self.level = (0,) * len(self.margins)
        self.winners = []
        self.duels = []
        for at, (first, second) in enumerate(self.parts):
            playing = sorted(self.coming(first) + self.coming(second))
            self.winners.append([results[at]] if at in results else playing)
            self.duels.append(self.duels_at(asked, at))

    def coming(self, part):
        """Return the ascending list of the sides that can win a part of a match."""
        kind, number = part
        return [number] if kind == "side" else self.winners[number]

    def duels_at(self, asked, at):
        """Return (winner, its part, loser, its part, gain) for each way to play a match."""
        first, second = self.parts[at]
        found = []
        for one in self.coming(first):
            for other in self.coming(second):
                if one in self.winners[at]:
                    found.append((one, first, other, second, gain(asked, at, one, other)))
                if other in self.winners[at]:
                    found.append((other, second, one, first, gain(asked, at, other, one)))
        return found

    def leads_in(self, table, part, side):
        """Return the leads that a table has for a part of a match that the side wins."""
        kind, number = part
        return [self.level] if kind == "side" else table[number][side]


def margins_of(asked):
    """Return for each integer of a lead the margin that it has to reach."""
    found = []
    for _, (_, rivals, margin) in asked:
        found.extend([margin] * len(rivals))
    return tuple(found)


def gain(asked, at, winner, loser):
    """Return the gain of a match, over all questions one after the other."""
    found = []
    for pool, (team, rivals, _) in asked:
        brought = worth_of(pool, at, winner, loser)
        right = count_right(pool, team, at, winner)
        found.extend([brought * (right - count_right(pool, rival, at, winner)) for rival in rivals])
    return tuple(found)


def count_right(pool, team, at, side):
    """Return how many of a team named a side for a match."""
    return len([entrant for entrant in team if pool[3][entrant][at] == side])


def added(one, other):
    """Return the sum of two leads."""
    return tuple([mine + theirs for mine, theirs in zip(one, other)])


def is_at_most(one, other):
    """Return whether one lead is at most another one."""
    for mine, theirs in zip(one, other):
        if mine > theirs:
            return False
    return True


def is_at_most_some(lead, others):
    """Return whether a lead is at most some of the others."""
    for other in others:
        if is_at_most(lead, other):
            return True
    return False


def maximal(leads, limit):
    """Return the ascending list of those leads that are at most no other one, if they are within a limit."""
    kept = []
    # A lead can only be at most one that is ordered behind it, so what is kept once stays maximal.
    for lead in sorted(leads, reverse=True):
        if not is_at_most_some(lead, kept):
            if len(kept) == limit:
                raise TooMany(limit)
            kept.append(lead)
    return kept[::-1]


def maximal_table(board):
    """Return the table of the maximal leads."""
    table = []
    for at, sides in enumerate(board.winners):
        sums = sums_at(board, table, at)
        table.append({side: maximal(sums[side], MOST_MAXIMAL) for side in sides})
    return table


def sums_at(board, table, at):
    """Return, for the sides that can win a match, dicts with the sums of leads and gain as keys."""
    sums = {side: {} for side in board.winners[at]}
    for winner, its_part, loser, other_part, brought in board.duels[at]:
        row = sums[winner]
        for one in board.leads_in(table, its_part, winner):
            ahead = added(one, brought)
            for other in board.leads_in(table, other_part, loser):
                row[added(ahead, other)] = True
    return sums


def ends_of(board, table):
    """Return (side, lead) for each lead of the final."""
    return [(side, lead) for side in board.coming(board.final) for lead in board.leads_in(table, board.final, side)]


def hopeful_end(board, table):
    """Return the first (side, lead) of the final that reaches all margins, or None."""
    for side, lead in ends_of(board, table):
        if is_at_most(board.margins, lead):
            return (side, lead)
    return None


def ending_with(board, table, side, lead):
    """Return an ending in which a side wins the final with a lead of the table."""
    ending = [side] * len(board.parts)
    waiting = [(board.final, side, lead)]
    while waiting:
        (kind, number), side, lead = waiting.pop()
        if kind == "match":
            ending[number] = side
            waiting.extend(both_parts(board, table, number, side, lead))
    return tuple(ending)


def both_parts(board, table, at, side, lead):
    """Return (part, side, lead) for both parts of a match from which a lead of the table comes."""
    for winner, its_part, loser, other_part, brought in board.duels[at]:
        if winner == side:
            for one in board.leads_in(table, its_part, winner):
                ahead = added(one, brought)
                for other in board.leads_in(table, other_part, loser):
                    if added(ahead, other) == lead:
                        return [(its_part, winner, one), (other_part, loser, other)]
    return []


def find_ending(asked, results):
    """Return an ending that is a hope for all questions, or None if there is none."""
    board = Board(asked, results)
    table = maximal_table(board)
    end = hopeful_end(board, table)
    if end is None:
        return None
    side, lead = end
    return ending_with(board, table, side, lead)


def find_table(asked, results):
    """Return a table that shows that no ending is a hope for all questions, or None if one is."""
    board = Board(asked, results)
    table = maximal_table(board)
    return table if hopeful_end(board, table) is None else None


def has_just_winners(board, value):
    """Return whether any value is a list with, for each match, a dict from just the sides that can win it."""
    if not isinstance(value, list) or len(value) != len(board.winners):
        return False
    for row, sides in zip(value, board.winners):
        if not isinstance(row, dict) or len(row) != len(sides):
            return False
        if sorted([side for side in row if is_int(side)]) != sides:
            return False
    return True


def are_leads(value, many):
    """Return whether any value is a list of one or more leads of so many integers."""
    if not isinstance(value, list) or not value:
        return False
    return all([is_lead(lead, many) for lead in value])


def is_lead(value, many):
    """Return whether any value is a lead of so many integers."""
    return isinstance(value, tuple) and len(value) == many and all([is_int(number) for number in value])


def is_table_without_hope(asked, results, value):
    """Return whether any value is a table that shows that no ending is a hope for all questions."""
    board = Board(asked, results)
    if not has_just_winners(board, value):
        return False
    if not all([are_leads(row[side], len(board.level)) for row in value for side in row]):
        return False
    # Where a lead keeps the rules, each lead that is at most this one keeps them, too.
    table = [{side: thinned(row[side]) for side in row} for row in value]
    return hopeful_end(board, table) is None and all([holds_at(board, table, at) for at in range(len(table))])


def thinned(leads):
    """Return the leads without repeated ones and without some that are at most another one."""
    kept = []
    # One look back is quick in long lists, and it finds most of those that can go.
    for lead in sorted(leads, reverse=True):
        if not kept or not is_at_most(lead, kept[-1]):
            kept.append(lead)
    return kept


def holds_at(board, table, at):
    """Return whether each sum of leads and gain at a match is at most some lead of the table."""
    for winner, its_part, loser, other_part, brought in board.duels[at]:
        tops = table[at][winner]
        for one in board.leads_in(table, its_part, winner):
            ahead = added(one, brought)
            for other in board.leads_in(table, other_part, loser):
                if not is_at_most_some(added(ahead, other), tops):
                    return False
    return True
