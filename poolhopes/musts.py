"""What has to come for a hope, and the fewest results that settle a question."""

from poolhopes.endings import all_endings, count_endings
from poolhopes.errors import TooMany
from poolhopes.hopes import is_hope
from poolhopes.leads import Board, added, hopeful_end, is_at_most, maximal_table, thinned
from poolhopes.pools import known_side
from poolhopes.trees import matches

MOST_OPEN = 7


def musts(pool, results, question):
    """Return the pairs (match, side) that all hopes share and the results do not name, or None if there is no hope."""
    board = Board(((pool, question),), results)
    table = maximal_table(board)
    if hopeful_end(board, table) is None:
        return None
    rests = rests_of(board, table)
    found = []
    for at, row in enumerate(table):
        winners = [side for side in row if is_reached(board, row[side], rests[at][side])]
        if at not in results and len(winners) == 1:
            found.append((at, winners[0]))
    return found


def rests_of(board, table):
    """Return for each match a dict from the sides that can win it to leads that the matches outside of it can bring.

    Only leads that are at most another one of them are left out.
    """
    rests = [{side: {} for side in row} for row in table]
    rests[-1] = {side: {board.level: True} for side in table[-1]}
    for at in range(len(table) - 1, -1, -1):
        rests[at] = {side: thinned(list(leads)) for side, leads in rests[at].items()}
        for winner, its_part, loser, other_part, brought in board.duels[at]:
            ahead = [added(rest, brought) for rest in rests[at][winner]]
            add_rests(rests, its_part, winner, ahead, board.leads_in(table, other_part, loser))
            add_rests(rests, other_part, loser, ahead, board.leads_in(table, its_part, winner))
    return rests


def add_rests(rests, part, side, ahead, beside):
    """Add what the matches ahead of a part and those beside it can bring together, if the part is a match."""
    kind, number = part
    if kind == "match":
        for one in ahead:
            for other in beside:
                rests[number][side][added(one, other)] = True


def is_reached(board, leads, rests):
    """Return whether some lead and some rest together reach all margins."""
    for rest in rests:
        for lead in leads:
            if is_at_most(board.margins, added(lead, rest)):
                return True
    return False


def settling(pool, results, question):
    """Return the fewest results, these ones in them, by which all endings are hopes, or None if there are none."""
    if len(matches(pool[0])) - len(results) > MOST_OPEN:
        raise TooMany(MOST_OPEN)
    hopes = [ending for ending in all_endings(pool, results) if is_hope(pool, results, question, ending)]
    for longer in sorted(longer_results(pool, results), key=len):
        left = [ending for ending in hopes if all([ending[at] == side for at, side in longer.items()])]
        if len(left) == count_endings(pool, longer):
            return longer
    return None


def longer_results(pool, results):
    """Return all results with these ones in them."""
    found = [dict(results)]
    for at, pair in enumerate(matches(pool[0])):
        if at not in results:
            more = []
            for some in found:
                sides = [known_side(part, some) for part in pair]
                if None not in sides:
                    more.extend([{**some, at: side} for side in sides])
            found = found + more
    return found
