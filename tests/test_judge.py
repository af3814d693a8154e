"""Point 47: the judge of papers."""

import unittest
from fractions import Fraction

from allworlds.errors import InvalidPaper
from allworlds.judge import check_paper, first_fault, is_paper
from allworlds.nets import Net
from allworlds.papers import Paper, paper_of, paper_with
from allworlds.tables import Table, one_table
from tests.cases import NO_WORLD, SURE, ErrorCase
from tests.drawn import NO_INTEGERS, NO_TUPLES, Odd, draw_news, drawn, nest, pair_of, plain
from tests.test_messages import KILN, NEWS, TREE
from tests.test_papers import draw_paper

PAPER = paper_of(KILN, NEWS, TREE)
ONES = Table((0,), (2,), ((1, 1), (1, 1)))


class Imitation:
    """An object with the attributes of a paper."""

    def __init__(self):
        self.tree, self.homes, self.up, self.down = PAPER.tree, PAPER.homes, PAPER.up, PAPER.down


def spoilt(paper, **other):
    """A paper with some attributes exchanged."""
    return Paper(**{**vars(paper), **other})


def exchanged(items, at, item):
    """A tuple with another item at a place."""
    return items[:at] + (item,) + items[at + 1:]


class TestJudge(ErrorCase):
    def faulty(self, net, news, value, fault):
        told = first_fault(net, news, value)
        self.assertEqual(told, fault)
        self.assertIs(is_paper(net, news, value), fault is None)
        if fault is None:
            self.assertIsNone(check_paper(net, news, value))
        else:
            self.assertEqual([type(item) for item in told], [str, int])
            self.raised(InvalidPaper, fault, check_paper, net, news, value)

    def test_example(self):
        self.assertTrue(is_paper(KILN, NEWS, PAPER))
        self.assertEqual(first_fault(KILN, (), PAPER), ("up", 0))
        self.assertIsNone(first_fault(net=KILN, news=NEWS, value=PAPER))
        self.assertTrue(is_paper(net=KILN, news=NEWS, value=PAPER))
        self.assertIsNone(check_paper(net=KILN, news=NEWS, value=PAPER))

    def test_no_paper(self):
        for value in NO_TUPLES + ((), (PAPER,), nest(100000), Imitation(), one_table(), Paper, KILN):
            self.faulty(KILN, NEWS, value, ("kind", 0))

    def test_trees(self):
        for value in NO_TUPLES + ((), nest(100000), (TREE[0],), TREE + (1,), (TREE[0], [-1, 0])):
            self.faulty(KILN, NEWS, spoilt(PAPER, tree=value), ("tree", -1))
        for value, at in (((((0, 1), (0,)), (0, 0)), 0), ((((0, 1), (0,)), (False, 0)), 0), ((((0, 1), (0,)), (-1, 1)), 1),
                          ((((0, 1), [0]), (-1, 0)), 1), ((((0, 2), (0,)), (-1, 0)), 0), ((((0, 1), Odd()), (-1, 0)), 1)):
            # Whatever else is wrong, the tree is named first.
            self.faulty(KILN, NEWS, Paper(value, None, None, None), ("tree", at))

    def test_homes(self):
        for value in NO_TUPLES + ((), (0,), (0, 0, 0), nest(100000)):
            self.faulty(KILN, NEWS, Paper(TREE, value, None, None), ("homes", -1))
        for value in NO_INTEGERS + (-1, 2, 10 ** 400):
            self.faulty(KILN, NEWS, Paper(TREE, (value, value), None, None), ("homes", 0))
            self.faulty(KILN, NEWS, Paper(TREE, (1, value), None, None), ("homes", 1))
        self.faulty(KILN, NEWS, Paper(TREE, (1, 1), None, None), ("homes", 1))
        self.faulty(KILN, NEWS, spoilt(PAPER, homes=(0, 0)), None)

    def test_messages(self):
        for value in NO_TUPLES + ((), PAPER.up[:1], PAPER.up * 2, nest(100000)):
            self.faulty(KILN, NEWS, spoilt(PAPER, up=value, down=1), ("up", -1))
            self.faulty(KILN, NEWS, spoilt(PAPER, down=value), ("down", -1))
            if not isinstance(value, tuple):
                value = (value, value)
            if len(value) == 2:
                self.faulty(KILN, NEWS, spoilt(PAPER, up=value), ("up", 0))
                self.faulty(KILN, NEWS, spoilt(PAPER, up=exchanged(PAPER.up, 1, value[0]), down=()), ("up", 1))
                self.faulty(KILN, NEWS, spoilt(PAPER, down=exchanged(PAPER.down, 1, value[0])), ("down", 1))
        for table in (Table([0], (2,), ONES.entries), Table((0,), [2], ONES.entries), Table((0,), (2,), list(ONES.entries)),
                      Table((False,), (2,), ONES.entries), Table((0,), (2,), ((1, 1), (True, 1))),
                      Table((0,), (2,), ((1, 1), (2, 2))), Table((0,), (True,), ((1, 1),)), Table((), (), ())):
            for at in range(2):
                self.faulty(KILN, NEWS, spoilt(PAPER, up=exchanged(PAPER.up, at, table), down=1), ("up", at))
                self.faulty(KILN, NEWS, spoilt(PAPER, down=exchanged(PAPER.down, at, table)), ("down", at))
        for table in (Table((0,), (3,), ((1, 1),) * 3), Table((1,), (2,), ONES.entries), one_table(),
                      Table((0, 1), (2, 2), ONES.entries * 2), Table((0,), (2,), ((1, 1), (-1, 1)))):
            # Tables of other things, or of other counts, are told like other wrong entries.
            self.faulty(KILN, NEWS, spoilt(PAPER, up=exchanged(PAPER.up, 1, table)), ("up", 1))
            self.faulty(KILN, NEWS, spoilt(PAPER, down=exchanged(PAPER.down, 1, table)), ("down", 1))
        self.faulty(KILN, NEWS, spoilt(PAPER, up=(ONES, ONES)), ("up", 0))
        self.faulty(KILN, NEWS, spoilt(PAPER, down=(ONES, PAPER.down[1])), ("down", 0))
        # From the last up to the first, then from the first to the last.
        self.faulty(KILN, NEWS, spoilt(PAPER, up=(ONES, one_table()), down=(ONES, ONES)), ("up", 1))
        self.faulty(KILN, NEWS, spoilt(PAPER, down=(ONES, ONES)), ("down", 0))

    def test_drawn(self):
        for rng in drawn(150, 310):
            net, news, paper = draw_paper(rng)
            self.faulty(net, news, paper, None)
            up, down = list(paper.up), list(paper.down)
            for _ in range(rng.randint(1, 3)):
                tables = rng.choice((up, down))
                at = rng.randrange(len(tables))
                table = tables[at]
                place = rng.randrange(len(table.entries))
                entry = pair_of(plain(table.entries[place]) + rng.choice((Fraction(1, 10 ** 30), -1, 0)))
                tables[at] = Table(table.things, table.counts, exchanged(table.entries, place, entry))
            other = spoilt(paper, up=tuple(up), down=tuple(down))
            ups = [("up", at) for at in reversed(range(len(up))) if up[at] != paper.up[at]]
            downs = [("down", at) for at in range(len(down)) if down[at] != paper.down[at]]
            self.faulty(net, news, other, (ups + downs + [None])[0])

    def test_other_news(self):
        for rng in drawn(100, 311):
            net, news, paper = draw_paper(rng)
            others = draw_news(rng, net)
            due = paper_with(net, others, paper.tree, paper.homes)
            self.assertIs(is_paper(net, others, paper), due == paper)
        # The paper of another net with the same tree.
        other = Net(KILN.things[:1] + (("chip", 2, (0,), (((1, 2), (1, 2)), ((1, 6), (5, 6)))),))
        self.assertFalse(is_paper(other, NEWS, PAPER))
        self.assertTrue(is_paper(SURE, NO_WORLD, paper_of(SURE, NO_WORLD)))


if __name__ == "__main__":
    unittest.main()
