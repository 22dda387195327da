import ast
import unittest
from pathlib import Path

import poolhopes

PACKAGE = Path(poolhopes.__file__).parent


def starred_indexes(text):
    """Return the ascending list of the rows of a file's text in which a star stands within an index."""
    found = []
    for node in ast.walk(ast.parse(text)):
        if isinstance(node, ast.Subscript):
            found.extend([inner.lineno for inner in ast.walk(node.slice) if isinstance(inner, ast.Starred)])
    return sorted(found)


class LanguageTest(unittest.TestCase):
    def test_no_star_stands_in_an_index(self):
        files = sorted(PACKAGE.glob("*.py"))
        self.assertIn("outlooks.py", [file.name for file in files])
        for file in files:
            self.assertEqual(starred_indexes(file.read_text()), [], file.name)

    def test_stars_in_indexes_are_found(self):
        for text in ("found[(*course, side)] = 1", "x = by_row[(*course, low)]", "x = by_row[*course, low]",
                     "del rows[(1, (*course, 2))]", "x = rows[0][(*course, 1)]"):
            self.assertEqual(starred_indexes(text), [1], text)
        self.assertEqual(starred_indexes("x = (rows[(*one, 1)],\n     rows[(*other, 1)])"), [1, 2])
        for text in ("row = (*course, side)\nfound[row] = 1", "x = [*rows[1], rows[2:]]", "x = rows[2 * 3]"):
            self.assertEqual(starred_indexes(text), [], text)


if __name__ == "__main__":
    unittest.main()
