"""The examples of the document, as tests/examples.txt has them: all of them in one go, as a reader would type them."""

import unittest
from importlib import import_module
from pathlib import Path

from poolhopes.errors import PoolhopesError
from tests.test_interface import FUNCTIONS, METHODS

EXAMPLES = Path(__file__).parent / "examples.txt"


def names():
    """Return all names of the interface that examples use."""
    found = {}
    for module, functions in FUNCTIONS.items():
        for function in functions:
            name = function.split("(")[0]
            found[name] = getattr(import_module(f"poolhopes.{module}"), name)
    for module, name in METHODS:
        found[name] = getattr(import_module(f"poolhopes.{module}"), name)
    return found


def examples():
    """Return (what is typed, what follows, or None) for each example."""
    found = []
    for line in EXAMPLES.read_text().splitlines():
        if line.startswith(">>> "):
            found.append([line[4:], None])
        elif line and not line.startswith("# "):
            found[-1][1] = line
    return found


class ExamplesTest(unittest.TestCase):
    def check_raised(self, typed, expected, known):
        """Check that an example raises the error that is told, with what it holds if that is told."""
        with self.assertRaises(PoolhopesError) as caught:
            eval(typed, known)
        name, _, held = expected.removeprefix("raises ").partition("(")
        self.assertEqual(type(caught.exception).__name__, name, typed)
        if held:
            self.assertEqual(caught.exception.event, eval(held[:-1]), typed)

    def test_all_examples(self):
        known = names()
        checked = 0
        for typed, expected in examples():
            if expected is None:
                exec(typed, known)
            elif expected.startswith("raises "):
                self.check_raised(typed, expected, known)
                checked += 1
            else:
                self.assertEqual(eval(typed, known), eval(expected, known), typed)
                checked += 1
        self.assertEqual(checked, 40)


if __name__ == "__main__":
    unittest.main()
