"""Covers, which show that no ending is a hope."""

from poolhopes.leads import find_table, is_table_without_hope


def find_cover(pool, results, question):
    """Return a cover, or None if there is a hope."""
    return find_table(((pool, question),), results)


def is_cover(pool, results, question, value):
    """Return whether any value is a cover."""
    return is_table_without_hope(((pool, question),), results, value)
