"""Runs the document's examples, as they stand there, from examples.txt."""

import os
import unittest

from lateeditions.errors import DeskError

PATH = os.path.join(os.path.dirname(os.path.abspath(__file__)), "examples.txt")


def steps(text):
    """The pairs (code, expected text) of the examples."""
    found = []
    for line in text.split("\n"):
        if line.startswith(">>> "):
            found.append([line[4:], ""])
        elif line and not line.startswith("#"):
            found[-1][1] = line
    return found


def told(code, names):
    try:
        return repr(eval(code, names))
    except DeskError as error:
        (kept,) = vars(error).values()
        return f"raises {error.__class__.__name__}({kept!r})"


class ExamplesTest(unittest.TestCase):
    def test_all(self):
        with open(PATH, encoding="ascii") as file:
            text = file.read()
        names = {}
        for code, expected in steps(text):
            with self.subTest(code=code):
                if expected:
                    self.assertEqual(told(code, names), expected)
                else:
                    exec(code, names)
        self.assertGreaterEqual(text.count(">>> "), 15)


if __name__ == "__main__":
    unittest.main()
