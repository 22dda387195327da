"""Sheets as texts."""

from poolhopes.errors import InvalidText
from poolhopes.trees import sides_of


def write_sheet(sheet):
    """Return the text of a sheet."""
    return " ".join([str(side) for side in sheet])


def read_sheet(tree, text):
    """Return the sheet for a tree that a text writes."""
    if not isinstance(text, str):
        raise InvalidText("This is no text.")
    words = text.split(" ")
    inside = sides_of(tree)
    if len(words) != len(inside):
        raise InvalidText("This text does not name one side for each match.")
    return tuple([side_named(word, sides) for word, sides in zip(words, inside)])


def side_named(word, sides):
    """Return the one of the sides that a word writes."""
    # Writing the sides instead of reading the word leaves no second way to write one.
    names = {str(side): side for side in sides}
    if word not in names:
        raise InvalidText("This text names what is no side of the match.")
    return names[word]
