"""A desk, which takes in results and right claims."""

from poolhopes.errors import InvalidEvent, Refused
from poolhopes.hopes import find_hope, is_question
from poolhopes.pools import are_results
from poolhopes.trees import is_int

MOST_CLAIMS = 8


class Desk:
    """A pool with results and claims; all that it knows follows from its events."""

    def __init__(self, pool):
        self.pool = pool
        self._events = []

    def __eq__(self, other):
        return isinstance(other, Desk) and self.pool == other.pool and self.events() == other.events()

    def events(self):
        """Return a new list of the events that were not taken back."""
        return list(self._events)

    def results(self):
        """Return the results."""
        return results_behind(self._events)

    def claims(self):
        """Return the questions claimed, in order."""
        return claims_behind(self._events)

    def hope(self, question):
        """Return a hope by the present results, or None if there is none."""
        return find_hope(self.pool, self.results(), question)

    def result(self, match, side):
        """Take in the winner of a match."""
        event = ("result", match, side)
        if not is_event(self.pool, self._events, event):
            raise InvalidEvent(event)
        self._events.append(event)

    def claim(self, question):
        """Take in a claim that there is no hope by the present results."""
        event = ("claim", question)
        if not is_event(self.pool, self._events, event):
            raise InvalidEvent(event)
        ending = self.hope(question)
        if ending is not None:
            raise Refused(ending)
        self._events.append(event)

    def undo(self):
        """Take back the last event and return it, or None if there is none."""
        return self._events.pop() if self._events else None


def results_behind(events):
    """Return the results that events name."""
    return {event[1]: event[2] for event in events if event[0] == "result"}


def claims_behind(events):
    """Return the questions that events claim, in order."""
    return [event[1] for event in events if event[0] == "claim"]


def is_event(pool, events, value):
    """Return whether any value is an event behind these events."""
    if not isinstance(value, tuple):
        return False
    if len(value) == 3 and value[0] == "result":
        return is_result(pool, results_behind(events), value[1], value[2])
    if len(value) == 2 and value[0] == "claim":
        return len(claims_behind(events)) < MOST_CLAIMS and is_question(pool, value[1])
    return False


def is_result(pool, results, match, side):
    """Return whether the results can name a match with a side, whatever these are."""
    # Only integers can be asked for in a dict without looking at their kind first.
    return is_int(match) and match not in results and are_results(pool, {**results, match: side})
