"""How often the entrants have which place."""

from poolhopes.chances import chances_at_end
from poolhopes.counts import board_of_all, counts_at_end, points_behind
from poolhopes.fractions import fraction_of
from poolhopes.places import first_of, place_of


def place_weights(pool, end, entrant):
    """Return for each place the sum of the weights of the leads with which an entrant has it."""
    found = [0] * len(pool[3])
    for lead, weight in end.items():
        found[place_of(points_behind(lead), entrant) - 1] += weight
    return found


def place_counts(pool, results, entrant):
    """Return for each place the number of endings behind which an entrant has it."""
    return place_weights(pool, counts_at_end(board_of_all(pool, results)), entrant)


def place_chances(pool, results, chances, entrant):
    """Return for each place the chance that an entrant has it."""
    end, whole = chances_at_end(board_of_all(pool, results), results, chances)
    return [fraction_of(weight, whole) for weight in place_weights(pool, end, entrant)]


def leaders(pool, results):
    """Return a dict from the entrants that share place 1 behind some ending to the number of these endings."""
    found = {}
    for lead, many in counts_at_end(board_of_all(pool, results)).items():
        first = first_of(points_behind(lead))
        found[first] = found.get(first, 0) + many
    return found
