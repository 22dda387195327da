"""The log of a desk, which can be checked without any search."""

from poolhopes.covers import find_cover, is_cover
from poolhopes.desk import claims_behind, is_event, results_behind


def log(desk):
    """Return the log of a desk: (event, evidence) for its events in order."""
    found = []
    events = desk.events()
    for at, event in enumerate(events):
        # What a desk took in as a claim has no hope, so it has a cover.
        is_claim = event[0] == "claim"
        cover = find_cover(desk.pool, results_behind(events[:at]), event[1]) if is_claim else None
        found.append((event, cover))
    return found


def is_log(pool, value):
    """Return whether any value is a log for a pool."""
    if not isinstance(value, list):
        return False
    events = []
    for entry in value:
        if not is_entry(pool, events, entry):
            return False
        events.append(entry[0])
    return True


def is_entry(pool, events, value):
    """Return whether any value is an entry of a log behind these events."""
    if not isinstance(value, tuple) or len(value) != 2 or not is_event(pool, events, value[0]):
        return False
    event, evidence = value
    if event[0] == "result":
        return evidence is None
    return is_cover(pool, results_behind(events), event[1], evidence)


def replayed(pool, log):
    """Return the results and the claims behind a log."""
    events = [event for event, _ in log]
    return (results_behind(events), claims_behind(events))
