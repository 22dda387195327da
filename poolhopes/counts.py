"""In how many endings something comes: a sum over the endings without going through them one by one.

A WEIGHT of a match, played in one way, is an integer; that of an ending is the product of those of its matches.
Tables have dicts from leads to weights here, in place of lists of leads.
"""

from poolhopes.errors import TooMany
from poolhopes.leads import Board, added, ends_of, is_at_most
from poolhopes.places import others_of

MOST_LEADS = 2000


def count_hopes(pool, results, question):
    """Return the number of hopes."""
    board = Board(((pool, question),), results)
    return hopeful_weight(board, counts_at_end(board))


def lead_counts(pool, results, question):
    """Return a dict from each lead at the end to the number of endings with it."""
    return counts_at_end(Board(((pool, question),), results))


def hopeful_weight(board, end):
    """Return the sum of the weights of the leads that reach all margins."""
    return sum([weight for lead, weight in end.items() if is_at_most(board.margins, lead)])


def board_of_all(pool, results):
    """Return the board for the leads of entrant 0 over all others, which tell all differences between entrants."""
    return Board(((pool, ((0,), others_of(pool, 0), 0)),), results)


def points_behind(lead):
    """Return the points of all entrants less those of entrant 0, by its lead over all others."""
    return (0, *[-number for number in lead])


def counts_at_end(board):
    """Return a dict from each lead at the end to the number of endings with it."""
    return weights_at_end(board, [[1] * len(duels) for duels in board.duels])


def weights_at_end(board, weights):
    """Return a dict from each lead at the end to the sum of the weights of the endings with it."""
    table = []
    for at in range(len(board.duels)):
        table.append(weights_at(board, table, at, weights[at]))
    found = {}
    for side, lead in ends_of(board, table):
        found[lead] = found.get(lead, 0) + weight_in(table, board.final, side, lead)
    return found


def weight_in(table, part, side, lead):
    """Return the weight of a lead in a part of a match that a side wins."""
    kind, number = part
    return 1 if kind == "side" else table[number][side][lead]


def weights_at(board, table, at, weights):
    """Return for the sides that can win a match dicts from the leads that can come there to their weights."""
    found = {side: {} for side in board.winners[at]}
    for duel, weight in zip(board.duels[at], weights):
        add_weights(found[duel[0]], board, table, duel, weight)
    return found


def add_weights(row, board, table, duel, weight):
    """Add the leads from one way to play a match to those of its winner."""
    winner, its_part, loser, other_part, brought = duel
    for one in board.leads_in(table, its_part, winner):
        ahead = added(one, brought)
        ahead_weight = weight * weight_in(table, its_part, winner, one)
        for other in board.leads_in(table, other_part, loser):
            lead = added(ahead, other)
            row[lead] = row.get(lead, 0) + ahead_weight * weight_in(table, other_part, loser, other)
        if len(row) > MOST_LEADS:
            raise TooMany(MOST_LEADS)
