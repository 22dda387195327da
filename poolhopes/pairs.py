"""The greatest lead of one team over another one."""

from poolhopes.leads import Board, ending_with, has_just_winners, maximal_table
from poolhopes.trees import is_int


def board_of_two(pool, results, team, other):
    """Return the board for the leads of a team over another one."""
    return Board(((pool, (team, (other,), 0)),), results)


def best_end(board, table):
    """Return (lead, side) for the greatest lead of the final."""
    # With one rival, all leads compare: just one is maximal.
    return max([(board.leads_in(table, board.final, side)[0], side) for side in board.coming(board.final)])


def greatest_lead(pool, results, team, other):
    """Return the greatest difference of the points of two teams over all endings."""
    board = board_of_two(pool, results, team, other)
    lead, _ = best_end(board, maximal_table(board))
    return lead[0]


def find_greatest(pool, results, team, other):
    """Return an ending with the greatest difference."""
    board = board_of_two(pool, results, team, other)
    table = maximal_table(board)
    lead, side = best_end(board, table)
    return ending_with(board, table, side, lead)


def find_bounds(pool, results, team, other):
    """Return bounds that show the greatest difference."""
    table = maximal_table(board_of_two(pool, results, team, other))
    return [{side: row[side][0][0] for side in row} for row in table]


def show_bounds(pool, results, team, other, value, number):
    """Return whether any value is bounds that show a number."""
    board = board_of_two(pool, results, team, other)
    if not has_just_winners(board, value):
        return False
    if not all([is_int(row[side]) for row in value for side in row]):
        return False
    ends = [bound_in(value, board.final, side) for side in board.coming(board.final)]
    return max(ends) <= number and all([bounds_hold_at(board, value, at) for at in range(len(value))])


def bound_in(bounds, part, side):
    """Return the bound for a part of a match that a side wins."""
    kind, number = part
    return 0 if kind == "side" else bounds[number][side]


def bounds_hold_at(board, bounds, at):
    """Return whether no sum of two bounds and the gain is greater than that of the winner of a match."""
    for winner, its_part, loser, other_part, brought in board.duels[at]:
        least = bound_in(bounds, its_part, winner) + bound_in(bounds, other_part, loser) + brought[0]
        if least > bounds[at][winner]:
            return False
    return True
