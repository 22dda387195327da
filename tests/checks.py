"""What several tests check in the same way."""

from copy import deepcopy

from poolhopes.errors import TooMany


def holders(value):
    """Return all lists and dicts within a value, and itself if it is one."""
    found = [value] if isinstance(value, (list, dict)) else []
    if isinstance(value, (list, tuple)):
        inner = list(value)
    else:
        inner = list(value.values()) if isinstance(value, dict) else []
    for part in inner:
        found.extend(holders(part))
    return found


def check_new(test, call, *arguments):
    """Check that a call leaves its arguments alone, and returns new and equal lists and dicts each time."""
    before = deepcopy(arguments)
    first = call(*arguments)
    test.assertEqual(arguments, before)
    kept = deepcopy(first)
    given = [id(holder) for holder in holders(arguments)]
    inner = [id(holder) for holder in holders(first)]
    test.assertEqual(len(inner), len(set(inner)), "two lists or dicts in one result are one")
    test.assertFalse(set(inner) & set(given), "a list or dict of an argument is in the result")
    second = call(*arguments)
    test.assertFalse(set(inner) & {id(holder) for holder in holders(second)}, "two calls return one list or dict")
    for holder in holders(first):
        holder.clear()
    test.assertEqual(second, kept, "a change to one result changes another one")
    test.assertEqual(call(*arguments), kept, "a change to a result changes the next one")
    test.assertEqual(arguments, before)


def check_bool(test, expected, call, *arguments):
    """Check that a call returns just this bool, and leaves its arguments alone."""
    before = deepcopy(arguments)
    test.assertIs(call(*arguments), expected)
    test.assertEqual(arguments, before)


def check_all_orders(test, call, results):
    """Check that a call returns the same for results whose keys were put in in other orders."""
    expected = call(results)
    keys = list(results)
    for start in range(len(keys)):
        order = keys[start:] + keys[:start]
        for names in (order, order[::-1]):
            test.assertEqual(call({name: results[name] for name in names}), expected)


def check_too_many(test, limit, call, *arguments):
    """Check that a call raises TooMany with this limit."""
    with test.assertRaises(TooMany) as caught:
        call(*arguments)
    test.assertIs(type(caught.exception), TooMany)
    test.assertEqual(caught.exception.limit, limit)
