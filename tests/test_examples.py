"""Each example of the document under the headings that are built, in its order."""

import os
import unittest

from gaugeroad import errors
from helpers import same

FILE = os.path.join(os.path.dirname(os.path.abspath(__file__)), "examples.txt")
ERRORS = {name: made for name, made in vars(errors).items() if isinstance(made, type)}


def steps(path):
    """The triples of heading, statement and what is told of it (None without anything)."""
    heading, found, told = None, [], False
    with open(path, encoding="ascii") as handle:
        for line in handle.read().split("\n"):
            if line.startswith("# "):
                heading = line[2:]
            elif line.startswith(">>> "):
                found.append([heading, line[4:], None])
                told = True
            elif told and line and not line.startswith("```"):
                found[-1][2] = line
            else:
                told = False
    return found


class TestExamples(unittest.TestCase):
    def check(self, path):
        names = {}
        for heading, line, told in steps(path):
            with self.subTest(heading=heading, line=line):
                if told is None:
                    exec(line, names)
                elif told.startswith("raises "):
                    wanted = eval(told[len("raises "):], dict(ERRORS))
                    with self.assertRaises(type(wanted)) as caught:
                        eval(line, names)
                    self.assertTrue(same(vars(caught.exception), vars(wanted)))
                else:
                    self.assertTrue(same(eval(line, names), eval(told, {})), line)

    def test_document(self):
        self.assertEqual(len({heading for heading, _, _ in steps(FILE)}), 33)
        self.check(FILE)

    def test_readme(self):
        readme = os.path.join(os.path.dirname(os.path.dirname(FILE)), "README.md")
        self.assertEqual(len(steps(readme)), 29)
        self.check(readme)


if __name__ == "__main__":
    unittest.main()
