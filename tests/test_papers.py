"""Points 43 and 44, and of point 46 the turned paper."""

import unittest
from fractions import Fraction
from itertools import permutations

from allworlds.errors import InvalidNews
from allworlds.growing import tree_of, turned_tree
from allworlds.messages import own_tables
from allworlds.nets import Net, counts_of
from allworlds.papers import (
    Paper, cluster_weights, cut_weights, own_tree, paper_of, paper_with, shares_at, shares_of, shares_of_all, total_in,
    turned_paper,
)
from allworlds.plain import plain_shares, plain_sums, plain_total
from allworlds.tables import entry_in, is_table
from allworlds.trees import are_homes, cut_of, homes_of, is_tree
from tests.cases import HALF, NO_WORLD, SURE, ErrorCase, chain_net_of
from tests.drawn import NO_TUPLES, Odd, all_worlds, draw_net, draw_news, drawn, plain, plain_weight
from tests.test_messages import KILN, NEWS, TREE, draw_homes, draw_wide_tree, sum_of_side
from tests.test_trees import draw_tree


def draw_paper(rng, net=None):
    """A net, news and a paper of them over any tree with any homes."""
    net = net or draw_net(rng)
    news = draw_news(rng, net)
    tree = draw_wide_tree(rng, net)
    return net, news, paper_with(net, news, tree, draw_homes(rng, net, tree))


class TestMade(ErrorCase):
    def test_example(self):
        paper = paper_of(KILN, NEWS, TREE)
        self.assertEqual((paper.tree, paper.homes), (TREE, (0, 0)))
        self.assertEqual(total_in(paper), (7, 24))
        self.assertEqual((paper.up[1].entries, paper.down[1].entries), (((1, 1), (1, 1)), ((1, 6), (1, 8))))
        self.assertEqual(shares_at(KILN, NEWS, paper, 0), ((4, 7), (3, 7)))
        self.assertEqual(shares_of(KILN, NEWS, 0), ((4, 7), (3, 7)))
        self.assertEqual(shares_of_all(net=KILN, news=NEWS, tree=TREE), (((4, 7), (3, 7)), ((1, 1), (0, 1))))
        self.assertEqual(paper_of(net=KILN, news=NEWS, tree=TREE), paper)
        self.assertEqual(paper_with(net=KILN, news=NEWS, tree=TREE, homes=(0, 0)), paper)
        self.assertEqual(total_in(paper=paper_with(KILN, NEWS, TREE, (1, 0))), (7, 24))

    def test_kept_and_equal(self):
        class Other:
            """No paper, though it has all attributes of one."""
            tree, homes, up, down = 1, 2, 3, 4

        marks = [Paper(tree, homes, up, down) for tree in (1, Odd()) for homes in (2, 7) for up in (3, 7)
                 for down in (4, 7)]
        first = marks[0]
        self.assertEqual((first.tree, first.homes, first.up, first.down), (1, 2, 3, 4))
        self.assertEqual(first, Paper(tree=1, homes=2, up=3, down=4))
        self.assertFalse(first != Paper(1, 2, 3, 4))
        for other in marks[1:8]:
            self.assertNotEqual(first, other)
        for other in (Other(), None, (1, 2, 3, 4), 1, Paper):
            self.assertFalse(first == other)
            self.assertTrue(first != other)

    def test_drawn(self):
        for rng in drawn(60, 300):
            net, news, paper = draw_paper(rng)
            tree, homes = paper.tree, paper.homes
            owns = own_tables(net, news, tree, homes)
            self.assertEqual(total_in(paper), plain_total(net, news))
            many = len(tree[0])
            self.assertEqual((len(paper.up), len(paper.down)), (many, many))
            for cluster in range(many):
                cut = cut_of(tree, cluster)
                below = [at for at in range(many) if goes_over(tree, at, cluster)]
                for side, message in ((below, paper.up[cluster]), ([k for k in range(many) if k not in below],
                                                                   paper.down[cluster])):
                    self.assertTrue(is_table(message))
                    self.assertEqual(message.things, cut)
                    due = sum_of_side(net, owns, side, cut)
                    self.assertEqual([plain(entry) for entry in message.entries], due)

    def test_own_tree(self):
        for rng in drawn(25, 301):
            net = draw_net(rng)
            tree = own_tree(net)
            self.assertTrue(is_tree(net, tree))
            self.assertTrue(are_homes(net, tree, homes_of(net, tree)))
            sequences = permutations(range(len(net.things)))
            self.assertIn(sorted(tree[0]), [sorted(tree_of(net, sequence)[0]) for sequence in sequences])
            news = draw_news(rng, net)
            paper = paper_of(net, news)
            self.assertEqual(paper, paper_with(net, news, tree, homes_of(net, tree)))
            self.assertEqual(paper_of(net, news, None), paper)
        self.assertEqual(own_tree(net=KILN), (((0, 1),), (-1,)))
        self.assertEqual(own_tree(Net((("a", 2, (), (HALF,)),))), (((0,),), (-1,)))

    def test_errors(self):
        homeless = (((0,), (1,)), (-1, 0))
        for value in NO_TUPLES:
            self.raised(InvalidNews, -1, paper_of, KILN, value)
            self.raised(InvalidNews, -1, shares_of, KILN, value, 0)
            self.raised(InvalidNews, -1, shares_of_all, KILN, value, homeless)
        wrong = NEWS + ((0, HALF),)
        for told in (lambda: paper_of(KILN, wrong), lambda: paper_of(KILN, wrong, homeless),
                     lambda: shares_of(KILN, wrong, 0), lambda: shares_of_all(KILN, wrong, homeless)):
            self.raised(InvalidNews, 1, told)
        self.raised(InvalidNews, 0, paper_of, KILN, ((0, ((0, 1), (0, 1))),))
        self.refused("home", paper_of, KILN, NEWS, homeless)
        self.refused("home", shares_of_all, KILN, NEWS, homeless)
        # The home is looked for before the total.
        self.refused("home", shares_of_all, SURE, NO_WORLD, (((0,),), (-1,)))


def goes_over(tree, below, number):
    """Whether the way from a cluster to the first one goes over another one."""
    while below != -1:
        if below == number:
            return True
        below = tree[1][below]
    return False


class TestWeights(ErrorCase):
    def test_drawn(self):
        for rng in drawn(60, 302):
            net, news, paper = draw_paper(rng)
            total = plain_total(net, news)
            tables = []
            for cluster, lot in enumerate(paper.tree[0]):
                for table, things in ((cluster_weights(net, news, paper, cluster), lot),
                                      (cut_weights(paper, cluster), cut_of(paper.tree, cluster))):
                    self.assertEqual((table.things, table.counts), (things, tuple(counts_of(net)[k] for k in things)))
                    self.assertEqual(table.entries, plain_sums(net, news, things))
                tables.append((cluster_weights(net=net, news=news, paper=paper, cluster=cluster),
                               cut_weights(paper=paper, cluster=cluster)))
            for world in all_worlds(net):
                whole, cuts = Fraction(1), plain_weight(net, news, world)
                for cluster, (weights, cut) in enumerate(tables):
                    whole *= plain(entry_in(weights, world))
                    cuts *= plain(entry_in(cut, world)) if cluster else 1
                self.assertEqual(whole, cuts)
            for thing in range(len(net.things)):
                if total[0]:
                    due = plain_shares(net, news, (thing,))
                    self.assertEqual(shares_at(net=net, news=news, paper=paper, thing=thing), due)
                    self.assertEqual(shares_of(net=net, news=news, thing=thing), due)
                else:
                    self.refused("barred", shares_at, net, news, paper, thing)
                    self.refused("barred", shares_of, net, news, thing)
            for tree in (None, draw_tree(rng, net)):
                if total[0]:
                    due = tuple(plain_shares(net, news, (thing,)) for thing in range(len(net.things)))
                    self.assertEqual(shares_of_all(net, news, tree), due)
                else:
                    self.refused("barred", shares_of_all, net, news, tree)

    def test_barred(self):
        paper = paper_of(SURE, NO_WORLD)
        self.assertEqual(total_in(paper), (0, 1))
        for thing in range(3):
            self.refused("barred", shares_at, SURE, NO_WORLD, paper, thing)
            self.refused("barred", shares_of, SURE, NO_WORLD, thing)
        self.refused("barred", shares_of_all, SURE, NO_WORLD)

    def test_long(self):
        # Two to the power of 24 worlds, and a sum over each cluster alone.
        net = chain_net_of(24)
        news = ((0, ((1, 2), (3, 1))), (23, ((0, 1), (5, 7))))
        shares = shares_of_all(net, news)
        self.assertEqual(shares[23], ((0, 1), (1, 1)))
        for moment in range(24):
            self.assertEqual(shares_of(net, news, moment), shares[moment])
            self.assertEqual(plain(shares[moment][0]) + plain(shares[moment][1]), 1)


class TestTurned(unittest.TestCase):
    def test_drawn(self):
        for rng in drawn(60, 303):
            net, news, paper = draw_paper(rng)
            many = len(paper.tree[0])
            for cluster in range(many):
                before = Paper(paper.tree, paper.homes, paper.up, paper.down)
                turned = turned_paper(paper=paper, cluster=cluster)
                tree = turned_tree(paper.tree, cluster)
                way = [cluster]
                while paper.tree[1][way[-1]] != -1:
                    way.append(paper.tree[1][way[-1]])
                order = way + [at for at in range(many) if at not in way]
                homes = tuple(order.index(home) for home in paper.homes)
                self.assertEqual(turned, paper_with(net, news, tree, homes))
                self.assertEqual((turned.tree, turned.homes), (tree, homes))
                self.assertEqual(paper, before)
            self.assertEqual(turned_paper(paper, 0), paper)


if __name__ == "__main__":
    unittest.main()
