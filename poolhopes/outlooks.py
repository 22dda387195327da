"""What can still come of a book: the courses, the bets there, and what the book pays in the end.

A ROW is a tuple of the winners of the first open matches, in their order: a course, or the winners of all of them.
"""

from poolhopes.contracts import pays
from poolhopes.errors import TooMany
from poolhopes.fractions import cut_to, difference_of, greater_of, total_of
from poolhopes.pools import sides_at
from poolhopes.quotes import bet_limits, cost
from poolhopes.trees import is_int, matches

MOST_OPEN = 8


class Outlook:
    """A book at quotes, with all rows that can come by the results."""

    def __init__(self, pool, results, quotes, book):
        self.sides = {}
        self.ladders = {}
        named = {(): results}
        many = len(matches(pool[0]))
        for at in range(many):
            if at not in results:
                named = self.longer(pool, quotes, at, named)
        self.endings = {row: tuple([known[match] for match in range(many)]) for row, known in named.items()}
        self.paid = {row: pays(pool, book, ending) for row, ending in self.endings.items()}

    def longer(self, pool, quotes, at, named):
        """Take in the courses that are given with their results, and return the rows one match longer with theirs."""
        found = {}
        for course, known in named.items():
            low, high = sides_at(pool, known, at)
            self.sides[course] = (low, high)
            self.ladders[course] = quotes[(low, high)]
            for side in (low, high):
                row = (*course, side)
                found[row] = {**known, at: side}
        return found

    def last_first(self):
        """Return the list of all courses, each one behind those that go on from it."""
        return list(self.sides)[::-1]

    def both(self, by_row, course):
        """Return what a dict holds for the two rows that are one match longer than a course, s winning first."""
        low, high = self.sides[course]
        low_row = (*course, low)
        high_row = (*course, high)
        return (by_row[low_row], by_row[high_row])

    def exact_plan(self):
        """Return the plan of the exact bets, and a dict from each row to the worth behind it."""
        plan = {}
        worths = {row: self.paid[row] for row in self.paid}
        for course in self.last_first():
            ladder = self.ladders[course]
            one, other = self.both(worths, course)
            plan[course] = exact_bet(ladder, one, other)
            worths[course] = need_of(ladder, one, other, plan[course])
        return (plan, worths)

    def needs(self, plan):
        """Return a dict from each row to the least money behind it from which a plan secures the book."""
        found = {row: self.paid[row] for row in self.paid}
        for course in self.last_first():
            one, other = self.both(found, course)
            found[course] = need_of(self.ladders[course], one, other, plan[course])
        return found

    def has_just_courses(self, value):
        """Return whether any value is a dict from just the courses."""
        if not isinstance(value, dict) or len(value) != len(self.sides):
            return False
        return all([is_row(key) and key in self.sides for key in value])


def is_row(value):
    """Return whether any value is a tuple of integers."""
    # Bools are found under 0 and 1 in a dict, so that the kinds have to be looked at.
    return isinstance(value, tuple) and all([is_int(side) for side in value])


def exact_bet(ladder, one, other):
    """Return the bet that leaves as little as can be to be needed, if so much is needed when s wins, or t."""
    low, high = bet_limits(ladder)
    return cut_to(difference_of(one, other), (low, 1), (high, 1))


def need_of(ladder, one, other, bet):
    """Return what is needed for a bet, if so much is needed when s wins, or t."""
    return total_of([greater_of(difference_of(one, bet), other), cost(ladder, bet)])


def outlook_within(pool, results, quotes, book):
    """Return the outlook, if not too many matches are open."""
    if len(matches(pool[0])) - len(results) > MOST_OPEN:
        raise TooMany(MOST_OPEN)
    return Outlook(pool, results, quotes, book)
