"""Points 38 and 39: trees."""

import unittest
from fractions import Fraction

from allworlds.errors import InvalidTree, Refused
from allworlds.nets import Net
from allworlds.ties import made_lots, married_ties
from allworlds.trees import (
    are_homes, below_lot, check_tree, children_in, cluster_way, cut_of, holder_of, homes_of, is_tree, runs_through,
    sides_of, tree_size,
)
from tests.drawn import (
    NO_INTEGERS, NO_TUPLES, Odd, all_worlds, draw_net, draw_news, drawn, nest, plain_weight,
)

HALF = ((1, 2), (1, 2))
NET = Net((("a", 2, (), (HALF,)), ("b", 2, (0,), (HALF,) * 2), ("c", 3, (1,), (((1, 3),) * 3,) * 2),
           ("d", 2, (0, 2), (HALF,) * 6)))
TREE = (((0, 1, 2), (0, 2, 3), (1,), (), (3,), (2, 3)), (-1, 0, 0, 2, 1, 1))


def draw_shape(rng, things=4, many=None):
    """Some lots, each with one before it above it."""
    many = many or rng.randint(1, 6)
    clusters = tuple(tuple(thing for thing in range(things) if rng.random() < 0.4) for _ in range(many))
    return clusters, (-1,) + tuple(rng.randrange(at) for at in range(1, many))


def draw_tree(rng, net):
    """Some tree with homes, from the lots that a sequence makes."""
    sequence = tuple(rng.sample(range(len(net.things)), len(net.things)))
    lots = made_lots(married_ties(net), sequence)[::-1]
    sequence = sequence[::-1]
    above = []
    for at, lot in enumerate(lots):
        near = [sequence.index(thing) for thing in lot if thing != sequence[at]]
        above.append(max(near) if near else 0 if at else -1)
    return lots, tuple(above)


def plain_way(shape, one, other):
    """The way between two clusters, by the clusters next to each one."""
    above = shape[1]
    ways, rim = {one: (one,)}, [one]
    while rim:
        at = rim.pop(0)
        for near in range(len(above)):
            if near not in ways and (above[near] == at or above[at] == near):
                ways[near] = ways[at] + (near,)
                rim.append(near)
    return ways[other]


def plain_runs(shape):
    """Whether each thing that two clusters share is in all on the way between them."""
    clusters = shape[0]
    return all(
        set(clusters[one]) & set(clusters[other]) <= set(clusters[at])
        for one in range(len(clusters)) for other in range(one) for at in plain_way(shape, one, other))


class TestShapes(unittest.TestCase):
    def test_cut(self):
        self.assertEqual([cut_of(TREE, number) for number in range(6)], [(), (0, 2), (1,), (), (3,), (2, 3)])
        self.assertEqual(cut_of((((1, 2),), (-1,)), 0), ())

    def test_runs(self):
        self.assertIs(runs_through(TREE), True)
        self.assertIs(runs_through((((),), (-1,))), True)
        self.assertIs(runs_through((((0,), (), (0,)), (-1, 0, 1))), False)
        self.assertIs(runs_through((((0,), (), (0,)), (-1, 0, 0))), True)
        self.assertIs(runs_through((((0,), (0,), (0,)), (-1, 0, 1))), True)
        self.assertIs(runs_through((((0, 1), (1, 2), (0, 2)), (-1, 0, 1))), False)
        # Two clusters below the same one share what it has not.
        self.assertIs(runs_through((((0,), (1,), (1,)), (-1, 0, 0))), False)

    def test_runs_drawn(self):
        running = 0
        for rng in drawn(400, 40):
            shape = draw_shape(rng)
            runs = runs_through(shape)
            self.assertIs(runs, plain_runs(shape))
            clusters = shape[0]
            cuts = [cut_of(shape, number) for number in range(len(clusters))]
            things = {thing for cluster in clusters for thing in cluster}
            self.assertIs(runs, sum(map(len, clusters)) - sum(map(len, cuts)) == len(things))
            running += runs
        self.assertGreater(running, 50)

    def test_sixty(self):
        clusters = tuple((at // 3, at // 3 + 1) for at in range(60))
        shape = (clusters, tuple(range(-1, 59)))
        self.assertIs(runs_through(shape), True)
        self.assertEqual(cluster_way(shape, 59, 0), tuple(range(59, -1, -1)))
        self.assertEqual(below_lot(shape, 0), tuple(range(60)))


class TestCheck(unittest.TestCase):
    def refused_at(self, value, at):
        with self.assertRaises(InvalidTree) as caught:
            check_tree(NET, value)
        self.assertEqual(caught.exception.at, at)
        self.assertIs(is_tree(NET, value), False)

    def test_right(self):
        for tree in (TREE, (((),), (-1,)), (((), ()), (-1, 0)), (((0, 1, 2, 3),), (-1,)), (((0,), (1,), (2,)), (-1, 0, 1))):
            self.assertIsNone(check_tree(NET, tree))
            self.assertIs(is_tree(NET, tree), True)

    def test_form(self):
        wrong = NO_TUPLES + ((), (((0,),),), (((0,),), (-1,), ()), ((), ()), (((0,),), ()), (((0,),), (-1, 0)), [((0,),), (-1,)],
                             ([(0,)], (-1,)), (((0,),), [-1]), (None, (-1,)), (((0,),), None), ((), None), (Odd(), (-1,)),
                             (((0,),), Odd()), nest(100000), (nest(100000), ()))
        for value in wrong:
            self.refused_at(value, -1)

    def test_clusters(self):
        wrong = NO_TUPLES + ([0], (4,), (0, 0), (1, 0), (-1,), (True,), (False, 1), (0.0,), ((0,),), (0, None), (Odd(),),
                             ("a",), nest(100000), (10 ** 30,))
        for cluster in wrong:
            self.refused_at(((cluster,), (-1,)), 0)
            self.refused_at((((0,), cluster), (-1, 0)), 1)
            self.refused_at((((0,), (0,), cluster, (0,)), (-1, 0, 1, None)), 2)

    def test_above(self):
        for item in NO_INTEGERS + (1, -2, 2, 10 ** 30, Odd(), nest(100000)):
            self.refused_at((((0,), (0,)), (-1, item)), 1)
            self.refused_at((((0,), (0,)), (item, 0)), 0)
        self.refused_at((((0,), (0,)), (0, 0)), 0)
        self.refused_at((((0,), (0,)), (-1, -1)), 1)
        self.refused_at((((0,), (0,), (0,)), (-1, 0, 2)), 2)
        self.refused_at((((0,), (0,), (0,)), (-1, 2, 0)), 1)

    def test_running(self):
        self.refused_at((((0,), (), (0,)), (-1, 0, 1)), 2)
        self.refused_at((((0, 1), (1, 2), (0, 2)), (-1, 0, 1)), 2)
        self.refused_at((((0,), (1,), (1,), (0,)), (-1, 0, 0, 1)), 2)

    def test_first_of_two(self):
        self.refused_at((((0,), (9,), None), (-1, None, None)), 1)
        self.refused_at((((0,), (), (0,), (9,)), (-1, 0, 1, 0)), 2)
        self.refused_at((((0,), (), (0,)), (-1, 7, 1)), 1)

    def test_drawn(self):
        for rng in drawn(300, 41):
            shape = draw_shape(rng)
            if runs_through(shape):
                self.assertIsNone(check_tree(NET, shape))
            else:
                first = min(many for many in range(1, 7) if not plain_runs((shape[0][:many], shape[1][:many])))
                self.refused_at(shape, first - 1)


class TestInTrees(unittest.TestCase):
    def test_tree(self):
        self.assertEqual([children_in(TREE, number) for number in range(6)], [(1, 2), (4, 5), (3,), (), (), ()])
        self.assertEqual([below_lot(TREE, number) for number in range(6)], [
            (0, 1, 2, 3, 4, 5), (1, 4, 5), (2, 3), (3,), (4,), (5,)])
        self.assertEqual(cluster_way(TREE, 4, 3), (4, 1, 0, 2, 3))
        self.assertEqual(cluster_way(TREE, 4, 5), (4, 1, 5))
        self.assertEqual(cluster_way(TREE, 0, 3), (0, 2, 3))
        self.assertEqual(cluster_way(TREE, 5, 1), (5, 1))
        self.assertEqual(cluster_way(TREE, 2, 2), (2,))
        self.assertEqual(sides_of(TREE, 1), ((3,), (1,)))
        self.assertEqual(sides_of(TREE, 2), ((), (0, 2, 3)))
        self.assertEqual(sides_of(TREE, 3), ((), (0, 1, 2, 3)))
        self.assertEqual(sides_of((((8, 9, 16), (8, 17, 24)), (-1, 0)), 1), ((17, 24), (9, 16)))
        self.assertEqual(sides_of((((8, 17, 24), (8, 9, 16)), (-1, 0)), 1), ((9, 16), (17, 24)))

    def test_ways_drawn(self):
        for rng in drawn(60, 42):
            shape = draw_shape(rng)
            every = range(len(shape[0]))
            for one in every:
                below = tuple(at for at in every if one in plain_way(shape, at, 0))
                self.assertEqual(below_lot(shape, one), below)
                self.assertEqual(children_in(shape, one), tuple(at for at in every if shape[1][at] == one))
                for other in every:
                    self.assertEqual(cluster_way(shape, one, other), plain_way(shape, one, other))

    def test_holders(self):
        self.assertEqual(holder_of(TREE, ()), 0)
        self.assertEqual(holder_of(TREE, (2,)), 0)
        self.assertEqual(holder_of(TREE, (2, 3)), 1)
        self.assertIsNone(holder_of(TREE, (1, 3)))
        self.assertEqual(homes_of(NET, TREE), (0, 0, 0, 1))
        with self.assertRaises(Refused) as caught:
            homes_of(NET, (((0, 1, 2), (2, 3)), (-1, 0)))
        self.assertEqual(caught.exception.word, "home")

    def test_are_homes(self):
        for homes in ((0, 0, 0, 1), (1, 0, 0, 1)):
            self.assertIs(are_homes(NET, TREE, homes), True)
        wrong = NO_TUPLES + ((), (0, 0, 0), (0, 0, 0, 1, 0), [0, 0, 0, 1], (0, 0, 0, 0), (2, 0, 0, 1), (0, 0, 0, 6),
                             (0, 0, 0, -1), (0, 0, 0, -5), (0, 2, 0, 1), nest(100000))
        for value in wrong:
            self.assertIs(are_homes(NET, TREE, value), False)
        for item in NO_INTEGERS + (Odd(), nest(100000), 10 ** 30):
            self.assertIs(are_homes(NET, TREE, (item, 0, 0, 1)), False)
            self.assertIs(are_homes(NET, TREE, (0, 0, 0, item)), False)

    def test_size(self):
        self.assertEqual(tree_size(NET, TREE), 12 + 12 + 2 + 1 + 2 + 6)
        self.assertEqual(tree_size(NET, (((),), (-1,))), 1)

    def test_sides_free(self):
        tried = 0
        for rng in drawn(60, 43):
            net = draw_net(rng, rng.randint(2, 5))
            tree = draw_tree(rng, net)
            self.assertIsNone(check_tree(net, tree))
            homes = homes_of(net, tree)
            self.assertIs(are_homes(net, tree, homes), True)
            news = draw_news(rng, net)
            number = rng.randrange(1, len(tree[0]))
            cut = cut_of(tree, number)
            below, beyond = sides_of(tree, number)
            clusters = below_lot(tree, number)
            inside = {thing for at in clusters for thing in tree[0][at]} - set(cut)
            self.assertEqual(below, tuple(sorted(inside)))
            self.assertEqual(beyond, tuple(sorted(set(range(len(net.things))) - inside - set(cut))))
            weights = [(world, plain_weight(net, news, world)) for world in all_worlds(net)]

            def sum_of(lot, world):
                return sum((weight for other, weight in weights if all(other[k] == world[k] for k in lot)), Fraction(0))

            for world in rng.sample([world for world, _ in weights], 4):
                left = sum_of(cut + below + beyond, world) * sum_of(cut, world)
                self.assertEqual(left, sum_of(cut + below, world) * sum_of(cut + beyond, world))
                tried += left > 0
        self.assertGreater(tried, 20)

    def test_first_holders(self):
        for rng in drawn(40, 44):
            net = draw_net(rng)
            tree = draw_tree(rng, net)
            for thing, home in enumerate(homes_of(net, tree)):
                family = set(net.things[thing][2]) | {thing}
                self.assertEqual(home, [at for at, lot in enumerate(tree[0]) if family <= set(lot)][0])


if __name__ == "__main__":
    unittest.main()
