"""Point 40: trees made of ties, lots and other trees."""

import unittest
from itertools import combinations, permutations, product

from allworlds.errors import Refused
from allworlds.growing import (
    joined_tree, smaller_tree, thin_tree, tree_of, tree_of_ties, turned_tree, widened_tree,
)
from allworlds.ties import filled_ties, married_ties, smooth_sequence, ties_within
from allworlds.trees import homes_of, is_tree, runs_through, tree_size
from tests.drawn import NO_INTEGERS, NO_TUPLES, Odd, draw_lot, draw_net, drawn, nest
from tests.test_ties import SQUARE, draw_ties, is_bare_loop, plain_is_smooth
from tests.test_trees import draw_tree, plain_runs, plain_way


def greatest_lots(ties, things):
    """The lots of pairwise tied things that are part of no other such lot."""
    lots = [
        lot for many in range(1, len(things) + 1) for lot in combinations(things, many)
        if all(tie in ties for tie in combinations(lot, 2))]
    return sorted(lot for lot in lots if not any(set(lot) < set(other) for other in lots))


def all_above(many):
    """All ways in which so many clusters can stand above one another."""
    return [(-1,) + rest for rest in product(*[range(at) for at in range(1, many)])]


def has_tree(lots):
    """Whether some tree has these lots as its clusters, by trying all."""
    return any(
        plain_runs((order, above)) for order in set(permutations(lots)) for above in all_above(len(lots)))


def near_pairs(tree, names):
    """The pairs of neighbours of a tree by the names of its clusters."""
    return sorted(tuple(sorted((names[at], names[over]))) for at, over in enumerate(tree[1]) if over >= 0)


class ShapeCase(unittest.TestCase):
    """What all tests of trees need."""

    def is_shape(self, shape, lots):
        self.assertIs(type(shape), tuple)
        clusters, above = shape
        self.assertIs(type(clusters), tuple)
        self.assertIs(type(above), tuple)
        self.assertEqual(sorted(clusters), sorted(lots))
        self.assertEqual(above[0], -1)
        self.assertTrue(all(type(over) is int and 0 <= over < at for at, over in enumerate(above) if at))
        self.assertEqual(len(clusters), len(above))
        self.assertTrue(plain_runs(shape))
        self.assertTrue(runs_through(shape))

    def refused(self, word, told, *values):
        with self.assertRaises(Refused) as caught:
            told(*values)
        self.assertEqual(caught.exception.word, word)


class TestOfTies(ShapeCase):
    def test_ties(self):
        loops = 0
        for rng in drawn(200, 100):
            ties = draw_ties(rng)
            things = tuple(range(6))
            if plain_is_smooth(ties):
                self.is_shape(tree_of_ties(ties, things), greatest_lots(ties, things))
            else:
                self.refused("loop", tree_of_ties, ties, things)
                loops += 1
        self.assertGreater(loops, 10)
        self.is_shape(tree_of_ties(ties=(), things=(3,)), [(3,)])
        self.is_shape(tree_of_ties((), (3, 8, 17)), [(3,), (8,), (17,)])
        self.is_shape(tree_of_ties(((3, 8), (8, 17)), (2, 3, 8, 17)), [(2,), (3, 8), (8, 17)])
        self.refused("loop", tree_of_ties, SQUARE, (0, 1, 2, 3, 4))

    def test_of_nets(self):
        for rng in drawn(60, 101):
            net = draw_net(rng)
            things = tuple(range(len(net.things)))
            sequence = tuple(rng.sample(things, len(things)))
            ties = married_ties(net)
            filled = filled_ties(ties, sequence)
            tree = tree_of(net, sequence)
            self.is_shape(tree, greatest_lots(filled, things))
            thin = thin_tree(net, sequence)
            self.is_shape(thin, thin[0])
            within = ties_within(thin[0])
            self.assertTrue(set(ties) <= set(within) <= set(filled))
            self.assertTrue(plain_is_smooth(within))
            self.assertEqual(sorted(thin[0]), greatest_lots(within, things))
            for tie in within:
                if tie not in ties:
                    self.assertFalse(plain_is_smooth(tuple(other for other in within if other != tie)))
            for made in (tree, thin):
                self.assertTrue(is_tree(net, made))
                homes_of(net, made)
            self.assertLessEqual(tree_size(net, thin), tree_size(net, tree))

    def test_sequences(self):
        net = draw_net(drawn(1, 102)[0], 3)
        self.assertTrue(is_tree(net, tree_of(net=net, sequence=(2, 0, 1))))
        self.assertTrue(is_tree(net, thin_tree(net=net, sequence=(2, 0, 1))))
        for told in (tree_of, thin_tree):
            for value in NO_TUPLES + ((), (0, 1), (0, 1, 1), (0, 1, 3), (0, 1, 2, 3), (0, 1, 2, 2), [0, 1, 2], nest(100000)):
                self.refused("sequence", told, net, value)
            for item in NO_INTEGERS + (Odd(),):
                self.refused("sequence", told, net, (item, 1, 2))
            self.refused("sequence", told, net, (False, True, 2))


class TestJoined(ShapeCase):
    def test_example(self):
        self.assertEqual(joined_tree(((0, 1), (1, 2), (0, 2))), ("knot", (0, 1, 2)))
        self.assertEqual(widened_tree((((0, 1), (1, 2), (2, 3)), (-1, 0, 1)), 2, (0,)),
                         (((0, 1), (0, 1, 2), (0, 2, 3)), (-1, 0, 1)))

    def joins(self, lots):
        word, told = joined_tree(lots)
        if word == "tree":
            self.is_shape(told, lots)
        elif word == "loop":
            self.assertIs(type(told), tuple)
            self.assertTrue(is_bare_loop(ties_within(lots), told))
        else:
            self.assertEqual(word, "knot")
            self.assertEqual(told, tuple(sorted(set(told))))
            self.assertGreaterEqual(len(told), 2)
            self.assertTrue(set(combinations(told, 2)) <= set(ties_within(lots)))
            self.assertFalse(any(set(told) <= set(lot) for lot in lots))
        return word

    def test_drawn(self):
        words = {"tree": 0, "loop": 0, "knot": 0}
        for rng in drawn(300, 103):
            lots = tuple(draw_lot(rng, rng.choice((3, 4, 5))) for _ in range(rng.randint(1, 5)))
            word = self.joins(lots)
            words[word] += 1
            if len(lots) < 5 or rng.random() < 0.2:
                self.assertIs(has_tree(lots), word == "tree")
            # There is a tree exactly if there is no bare loop and no knot.
            ties, things = ties_within(lots), sorted({thing for lot in lots for thing in lot})
            knots = [lot for lot in greatest_lots(ties, things)
                     if len(lot) > 1 and not any(set(lot) <= set(other) for other in lots)]
            self.assertIs(word == "tree", plain_is_smooth(ties) and not knots)
        self.assertGreater(words["knot"], 10)
        self.assertGreater(words["tree"], 50)

    def test_loops(self):
        self.assertEqual(self.joins(SQUARE), "loop")
        self.assertEqual(sorted(joined_tree(SQUARE)[1]), [0, 1, 2, 3])
        for rng in drawn(60, 104):
            ties = draw_ties(rng, 6, 0.4)
            if not plain_is_smooth(ties) and all(
                    any(set(lot) <= set(tie) for tie in ties) for lot in greatest_lots(ties, range(6)) if len(lot) > 1):
                self.assertEqual(self.joins(ties), "loop")

    def test_equal_and_within(self):
        for lots in (((),), ((), ()), ((0,), (0,)), ((0, 1), (0,), (0, 1), (1,), ()), ((5,), (3,), (4,)), ((2, 9), (9,), (2,))):
            self.assertEqual(self.joins(lots), "tree")
        self.joins(((0, 1), (1, 2), (0, 2), (0, 1)))
        self.assertEqual(self.joins(((0, 1), (1, 2), (0, 2), (0, 1, 2))), "tree")
        self.assertEqual(joined_tree(lots=((1,),)), ("tree", (((1,),), (-1,))))

    def test_forty(self):
        line = tuple((at, at + 1, at + 2) for at in range(40))
        self.assertEqual(self.joins(line), "tree")
        self.assertEqual(self.joins(line[::-1]), "tree")
        self.assertEqual(self.joins(((3, 4),) * 40), "tree")
        self.assertEqual(self.joins(tuple((at, at + 1) for at in range(39)) + ((0, 39),)), "loop")

    def test_smaller(self):
        for rng in drawn(80, 105):
            net = draw_net(rng)
            tree = draw_tree(rng, net)
            kept = sorted(set(lot for lot in tree[0] if not any(set(lot) < set(other) for other in tree[0])))
            self.is_shape(smaller_tree(tree), kept)
        self.assertEqual(smaller_tree(tree=(((), (0,), (0,), ()), (-1, 0, 1, 0))), (((0,),), (-1,)))
        self.assertEqual(smaller_tree((((), ()), (-1, 0))), (((),), (-1,)))
        self.is_shape(smaller_tree((((1,), (), (2,), (1,)), (-1, 0, 1, 0))), [(1,), (2,)])


class TestOfTrees(unittest.TestCase):
    def test_turned(self):
        tree = (((0,), (1,), (2,), (3,), (4,), (5,)), (-1, 0, 1, 0, 2, 1))
        self.assertEqual(turned_tree(tree, 4), (((4,), (2,), (1,), (0,), (3,), (5,)), (-1, 0, 1, 2, 3, 2)))
        self.assertEqual(turned_tree(tree=tree, number=0), tree)
        for rng in drawn(80, 106):
            tree = draw_tree(rng, draw_net(rng))
            many = len(tree[1])
            number = rng.randrange(many)
            way = plain_way(tree, number, 0)
            order = way + tuple(at for at in range(many) if at not in way)
            turned = turned_tree(tree, number)
            self.assertEqual(turned[0], tuple(tree[0][at] for at in order))
            self.assertEqual(near_pairs(turned, order), near_pairs(tree, tuple(range(many))))
            self.assertEqual(turned[1][0], -1)
            self.assertTrue(all(0 <= over < at for at, over in enumerate(turned[1]) if at))
            self.assertTrue(plain_runs(turned))

    def test_widened(self):
        added_ones = 0
        for rng in drawn(150, 107):
            net = draw_net(rng)
            tree = draw_tree(rng, net)
            number = rng.randrange(len(tree[1]))
            lot = draw_lot(rng, 7)
            wide = widened_tree(tree, number, lot)
            self.assertEqual(wide[1], tree[1])
            self.assertTrue(plain_runs(wide))
            self.assertTrue(all(cluster == tuple(sorted(set(cluster))) for cluster in wide[0]))
            self.assertTrue(all(set(old) <= set(new) for old, new in zip(tree[0], wide[0])))
            self.assertTrue(set(lot) <= set(wide[0][number]))
            added = [(at, thing) for at, cluster in enumerate(wide[0]) for thing in cluster if thing not in tree[0][at]]
            added_ones += len(added)
            if len(added) > 8:
                continue
            for many in range(1, len(added) + 1):
                for gone in combinations(added, many):
                    less = tuple(
                        tuple(thing for thing in cluster if (at, thing) not in gone) for at, cluster in enumerate(wide[0]))
                    self.assertFalse(set(lot) <= set(less[number]) and plain_runs((less, tree[1])))
        self.assertGreater(added_ones, 100)

    def test_widened_by_nothing(self):
        tree = (((0, 1), (1, 2)), (-1, 0))
        self.assertEqual(widened_tree(tree=tree, number=1, lot=()), tree)
        self.assertEqual(widened_tree(tree, 1, (1, 2)), tree)
        self.assertEqual(widened_tree(tree, 1, (9,)), (((0, 1), (1, 2, 9)), (-1, 0)))
        self.assertEqual(widened_tree((((),), (-1,)), 0, (0, 20)), (((0, 20),), (-1,)))

    def test_smooth_order_is_free(self):
        ties = ((0, 1), (1, 2), (2, 3), (1, 3))
        self.assertEqual(sorted(tree_of_ties(tuple(sorted(ties)), (0, 1, 2, 3))[0]), [(0, 1), (1, 2, 3)])
        self.assertEqual(sorted(smooth_sequence(tuple(sorted(ties)), (0, 1, 2, 3))), [0, 1, 2, 3])


if __name__ == "__main__":
    unittest.main()
