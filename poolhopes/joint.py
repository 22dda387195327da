"""Questions about several pools on one tree at once."""

from poolhopes.hopes import is_hope, is_question
from poolhopes.leads import find_ending, find_table, is_table_without_hope
from poolhopes.pools import is_pool

MOST_QUESTIONS = 3


def is_joint(value):
    """Return whether any value is a joint question."""
    if not isinstance(value, tuple) or not 1 <= len(value) <= MOST_QUESTIONS:
        return False
    if not all([is_asked(pair) for pair in value]):
        return False
    tree = value[0][0][0]
    return all([pool[0] == tree for pool, _ in value])


def is_asked(value):
    """Return whether any value is a tuple of a pool and a question about it."""
    return isinstance(value, tuple) and len(value) == 2 and is_pool(value[0]) and is_question(value[0], value[1])


def is_joint_hope(joint, results, value):
    """Return whether any value is a joint hope."""
    return all([is_hope(pool, results, question, value) for pool, question in joint])


def find_joint_hope(joint, results):
    """Return a joint hope, or None if there is none."""
    return find_ending(joint, results)


def find_joint_cover(joint, results):
    """Return a joint cover, or None if there is a joint hope."""
    return find_table(joint, results)


def is_joint_cover(joint, results, value):
    """Return whether any value is a joint cover."""
    return is_table_without_hope(joint, results, value)
