"""Points 41 and 42: own tables, and messages up and down."""

import unittest
from fractions import Fraction
from itertools import product

from allworlds.messages import down_message, downward, own_table, own_tables, up_message, upward
from allworlds.nets import Net
from allworlds.sums import product_of, summed_to
from allworlds.tables import Table, entry_in, is_table, one_table
from allworlds.trees import are_homes, children_in, cut_of, homes_of
from tests.drawn import all_worlds, draw_net, draw_news, drawn, plain, plain_row, plain_weight
from tests.test_trees import draw_tree, plain_way

KILN = Net((("kiln", 2, (), (((1, 4), (3, 4)),)), ("chip", 2, (0,), (((2, 3), (1, 3)), ((1, 6), (5, 6))))))
NEWS = ((1, ((1, 1), (0, 1))),)
TREE = (((0, 1), (0,)), (-1, 0))


def draw_homes(rng, net, tree):
    """Any homes in a tree."""
    homes = []
    for thing, row in enumerate(net.things):
        family = set(row[2] + (thing,))
        homes.append(rng.choice([at for at, cluster in enumerate(tree[0]) if family <= set(cluster)]))
    return tuple(homes)


def draw_wide_tree(rng, net):
    """A tree with homes, and perhaps some clusters that are empty or stand twice."""
    clusters, above = draw_tree(rng, net)
    for _ in range(rng.randint(0, 2)):
        over = rng.randrange(len(clusters))
        clusters += (tuple(thing for thing in clusters[over] if rng.random() < 0.5),)
        above += (over,)
    return clusters, above


def sum_of_side(net, owns, side, cut):
    """For each filling of a cut the sum, over all things that are only in a side's clusters, of the products."""
    things = sorted({thing for at in side for thing in owns[at].things} - set(cut))
    found = {}
    for filling in product(*[range(net.things[thing][1]) for thing in cut]):
        total = Fraction(0)
        for inner in product(*[range(net.things[thing][1]) for thing in things]):
            world = [0] * len(net.things)
            for thing, case in list(zip(cut, filling)) + list(zip(things, inner)):
                world[thing] = case
            value = Fraction(1)
            for at in side:
                value *= plain(entry_in(owns[at], world))
            total += value
        found[filling] = total
    return [found[key] for key in sorted(found)]


class TestOwn(unittest.TestCase):
    def test_simple(self):
        homes = homes_of(KILN, TREE)
        self.assertEqual(homes, (0, 0))
        owns = own_tables(KILN, NEWS, TREE, homes)
        self.assertEqual(owns, (Table((0, 1), (2, 2), ((1, 6), (0, 1), (1, 8), (0, 1))), Table((0,), (2,), ((1, 1),) * 2)))
        self.assertEqual(own_table(net=KILN, news=NEWS, tree=TREE, homes=homes, cluster=1), owns[1])
        self.assertEqual(own_tables(net=KILN, news=NEWS, tree=TREE, homes=(1, 0)),
                         (Table((0, 1), (2, 2), ((2, 3), (0, 1), (1, 6), (0, 1))), Table((0,), (2,), ((1, 4), (3, 4)))))
        empty = (((0, 1), ()), (-1, 0))
        self.assertEqual(own_table(KILN, NEWS, empty, (0, 0), 1), one_table())

    def test_drawn(self):
        for rng in drawn(60, 170):
            net = draw_net(rng)
            news = draw_news(rng, net)
            tree = draw_wide_tree(rng, net)
            homes = draw_homes(rng, net, tree)
            self.assertTrue(are_homes(net, tree, homes))
            owns = own_tables(net, news, tree, homes)
            self.assertIs(type(owns), tuple)
            for cluster, own in enumerate(owns):
                self.assertTrue(is_table(own))
                self.assertEqual(own.things, tree[0][cluster])
                self.assertEqual(own.counts, tuple(net.things[thing][1] for thing in own.things))
                self.assertEqual(own_table(net, news, tree, homes, cluster), own)
            for world in all_worlds(net):
                whole = Fraction(1)
                for cluster, own in enumerate(owns):
                    due = Fraction(1)
                    for thing, home in enumerate(homes):
                        if home == cluster:
                            weights = dict(news).get(thing, ((1, 1),) * net.things[thing][1])
                            due *= plain(plain_row(net, thing, world)[world[thing]]) * plain(weights[world[thing]])
                    self.assertEqual(plain(entry_in(own, world)), due)
                    whole *= due
                self.assertEqual(whole, plain_weight(net, news, world))


class TestMessages(unittest.TestCase):
    def test_example(self):
        owns = own_tables(KILN, NEWS, TREE, (0, 0))
        up = upward(TREE, owns)
        down = downward(TREE, owns, up)
        self.assertEqual((up[0].entries, up[1].entries, down[1].entries), (((7, 24),), ((1, 1), (1, 1)), ((1, 6), (1, 8))))
        self.assertEqual(down[0], one_table())
        self.assertEqual(up_message(tree=TREE, owns=owns, up=up, cluster=0), up[0])
        self.assertEqual(down_message(tree=TREE, owns=owns, up=up, down=down, cluster=1), down[1])
        self.assertEqual(upward(tree=TREE, owns=owns), up)
        self.assertEqual(downward(tree=TREE, owns=owns, up=up), down)

    def test_drawn(self):
        for rng in drawn(60, 171):
            net = draw_net(rng, rng.randint(1, 4))
            news = draw_news(rng, net)
            tree = draw_wide_tree(rng, net)
            owns = own_tables(net, news, tree, draw_homes(rng, net, tree))
            up = upward(tree, owns)
            down = downward(tree, owns, up)
            self.assertEqual((type(up), type(down), len(up), len(down)), (tuple, tuple, len(owns), len(owns)))
            numbers = range(len(owns))
            for cluster in numbers:
                cut = cut_of(tree, cluster)
                below = [at for at in numbers if cluster in plain_way(tree, at, 0)]
                beyond = [at for at in numbers if at not in below]
                self.assertEqual((up[cluster].things, down[cluster].things), (cut, cut))
                self.assertTrue(is_table(up[cluster]) and is_table(down[cluster]))
                self.assertEqual([plain(entry) for entry in up[cluster].entries], sum_of_side(net, owns, below, cut))
                self.assertEqual([plain(entry) for entry in down[cluster].entries], sum_of_side(net, owns, beyond, cut))
            total = sum(plain_weight(net, news, world) for world in all_worlds(net))
            self.assertEqual([plain(entry) for entry in up[0].entries], [total])

    def test_from_what_is_there(self):
        """Messages are made of what is passed, whatever it is, and need no more than that."""
        for rng in drawn(40, 172):
            net = draw_net(rng)
            tree = draw_wide_tree(rng, net)
            owns = own_tables(net, draw_news(rng, net), tree, draw_homes(rng, net, tree))
            up, down = upward(tree, owns), downward(tree, owns, upward(tree, owns))
            # Any other messages over the same cuts.
            other = {at: Table(table.things, table.counts, tuple((rng.randint(0, 3), 1) for _ in table.entries))
                     for at, table in enumerate(up)}
            for cluster in range(len(owns)):
                below = children_in(tree, cluster)
                due = summed_to(product_of([owns[cluster]] + [other[at] for at in below]), cut_of(tree, cluster))
                needed = {at: other[at] for at in below}
                self.assertEqual(up_message(tree, {cluster: owns[cluster]}, needed, cluster), due)
                self.assertEqual(up_message(tree, list(owns), [other[at] for at in range(len(owns))], cluster), due)
                if cluster == 0:
                    self.assertEqual(down_message(tree, {}, {}, {}, 0), one_table())
                    continue
                above = tree[1][cluster]
                beside = [at for at in children_in(tree, above) if at != cluster]
                due = product_of([owns[above], down[above]] + [other[at] for at in beside])
                due = summed_to(due, cut_of(tree, cluster))
                needed = {at: other[at] for at in beside}
                self.assertEqual(down_message(tree, {above: owns[above]}, needed, {above: down[above]}, cluster), due)
                self.assertEqual(down_message(tree, owns, tuple(other[at] for at in range(len(owns))), list(down), cluster), due)


if __name__ == "__main__":
    unittest.main()
