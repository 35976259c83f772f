"""Each example of the document under the headings that are built, in its order."""

import os
import unittest

from gaugeroad import errors
from helpers import same

FILE = os.path.join(os.path.dirname(os.path.abspath(__file__)), "examples.txt")
ERRORS = {name: made for name, made in vars(errors).items() if isinstance(made, type)}


def steps():
    """The triples of heading, statement and what is told of it (None without anything)."""
    heading, found = None, []
    with open(FILE, encoding="ascii") as handle:
        for line in handle.read().split("\n"):
            if line.startswith("# "):
                heading = line[2:]
            elif line.startswith(">>> "):
                found.append([heading, line[4:], None])
            elif line:
                found[-1][2] = line
    return found


class TestExamples(unittest.TestCase):
    def test_examples(self):
        names = {}
        headings = []
        for heading, line, told in steps():
            headings.append(heading)
            with self.subTest(heading=heading, line=line):
                if told is None:
                    exec(line, names)
                elif told.startswith("raises "):
                    wanted = eval(told[len("raises "):], dict(ERRORS))
                    with self.assertRaises(type(wanted)) as caught:
                        eval(line, names)
                    self.assertTrue(same(vars(caught.exception), vars(wanted)))
                else:
                    self.assertTrue(same(eval(line, names), eval(told, {})), line)
        self.assertEqual(len(set(headings)), 13)


if __name__ == "__main__":
    unittest.main()
