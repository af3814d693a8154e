"""What tests of errors share, and nets that several of them use."""

import unittest

from allworlds.errors import NetError, Refused
from allworlds.nets import Net, finding

HALF = ((1, 2), (1, 2))
# The first thing has only one case that can be.
SURE = Net((("a", 2, (), (((1, 1), (0, 1)),)), ("b", 2, (0,), (HALF, HALF)), ("c", 2, (), (HALF,))))
NO_WORLD = (finding(SURE, 0, 1),)


def wide_net(many, count=2):
    """A net of so many things with equally many cases and no ties."""
    row = ((1, count),) * count
    return Net(tuple(("abcdefghijklmnopqrstuvwx"[at], count, (), (row,)) for at in range(many)))


# Nine things with just 20,000 fillings.
FULL = (5, 5, 5, 5, 2, 2, 2, 2, 2)


def free_net(counts):
    """A net of things with such counts and no ties."""
    rows = [((1, count),) * count for count in counts]
    return Net(tuple(("abcdefghijklmnopqrstuvwx"[at], count, (), (rows[at],)) for at, count in enumerate(counts)))


def chain_net_of(many, rows=(((1, 3), (2, 3)), ((3, 4), (1, 4)))):
    """A net of so many things, each the only parent of the next one."""
    things = [("a", 2, (), (((2, 5), (3, 5)),))]
    for at in range(1, many):
        things.append(("abcdefghijklmnopqrstuvwx"[at], 2, (at - 1,), rows))
    return Net(tuple(things))


class ErrorCase(unittest.TestCase):
    """Calls that raise errors of the package."""

    def raised(self, kind, at, told, *values):
        """Ask that a call raises an error with this attribute, and of just this kind."""
        with self.assertRaises(NetError) as caught:
            told(*values)
        self.assertIs(type(caught.exception), kind)
        found = caught.exception.word if hasattr(caught.exception, "word") else caught.exception.at
        self.assertEqual((type(found), found), (type(at), at))

    def refused(self, word, told, *values):
        """Ask that a call is refused with a word."""
        self.raised(Refused, word, told, *values)
