"""What the tests share: values of other kinds, and a look at errors whole."""

import unittest


OTHERS = [None, True, False, "3", "", (), [], {}, (3,), [3], {3: 3}]


def same(one, other):
    """Whether two values are equal, and of the same kind all through."""
    if type(one) is not type(other):
        return False
    if isinstance(one, (list, tuple)):
        return len(one) == len(other) and all(same(a, b) for a, b in zip(one, other))
    return one == other


class Case(unittest.TestCase):
    def fails(self, error, work, *args, **named):
        """Asks that just this error is raised, with just these attributes."""
        with self.assertRaises(type(error)) as caught:
            work(*args, **named)
        found = caught.exception
        self.assertIs(type(found), type(error))
        self.assertEqual(set(vars(found)), set(vars(error)))
        for name, value in vars(error).items():
            self.assertTrue(same(getattr(found, name), value), (name, getattr(found, name), value))

    def alike(self, one, other):
        """Asks that two values are equal and of one kind."""
        self.assertTrue(same(one, other), (one, other))
