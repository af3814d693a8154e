"""Points 29 and 30: scopes, clusters, sizes and flows."""

import unittest
from itertools import permutations, product

from allworlds.nets import counts_of
from allworlds.sequences import (
    cluster_behind, clusters_by, cost_by, flows_by, greedy_sequence, is_sequence, lot_size, scopes_in, scopes_left,
    scopes_without, settled_sequence, sizes_by,
)
from tests.drawn import NO_INTEGERS, NO_TUPLES, Odd, draw_lot, draw_net, drawn, nest

RING = ((0, 1), (1, 2), (2, 3), (0, 3))


def draw_scopes(rng, things=6):
    """A few lots of things."""
    return tuple(
        tuple(sorted(rng.sample(range(things), rng.randint(rng.choice((0, 1, 1)), 3)))) for _ in range(rng.randint(0, 5)))


def plain_left_out(scopes, thing):
    """The scopes after a thing has been left out."""
    union = {other for scope in scopes if thing in scope for other in scope} - {thing}
    return tuple(scope for scope in scopes if thing not in scope) + (tuple(sorted(union)),)


def plain_cluster(scopes, before, thing):
    """The things reached over those before, by lines of tied things."""
    reached, rim = {thing}, [thing]
    while rim:
        at = rim.pop()
        for scope in scopes:
            if at in scope:
                for other in scope:
                    if other not in reached:
                        reached.add(other)
                        if other in before:
                            rim.append(other)
    return tuple(sorted(thing for thing in reached if thing not in before))


class TestScopes(unittest.TestCase):
    def test_example(self):
        self.assertEqual(clusters_by(RING, (0, 2, 3, 1)), ((0, 1, 3), (1, 2, 3), (1, 3), (1,)))

    def test_in_net(self):
        for rng in drawn(30, 27):
            net = draw_net(rng)
            families = tuple(tuple(sorted(thing[2] + (at,))) for at, thing in enumerate(net.things))
            self.assertEqual(scopes_in(net), families)

    def test_without(self):
        self.assertEqual(scopes_without(RING, (0, 3)), ((1,), (1, 2), (2,), ()))
        self.assertEqual(scopes_without(RING, ()), RING)
        self.assertEqual(scopes_without((), (1,)), ())
        self.assertEqual(scopes_without(((), (5,)), (1, 5)), ((), ()))

    def test_is_sequence(self):
        for lot in ((), (3,), (0, 2, 5)):
            for value in permutations(lot):
                self.assertIs(is_sequence(lot, value), True)
        self.assertIs(is_sequence((0, 2, 5), ()), False)
        for value in NO_TUPLES + ((0, 2), (0, 2, 5, 5), (0, 0, 5), (0, 2, 4), [0, 2, 5], (0, 2, 5, 7), nest(100000)):
            self.assertIs(is_sequence((0, 2, 5), value), False)
            self.assertIs(is_sequence((), value), False)
        for item in NO_INTEGERS + (Odd(),):
            self.assertIs(is_sequence((0, 2, 5), (item, 2, 5)), False)
            self.assertIs(is_sequence((1,), (item,)), False)
        self.assertIs(is_sequence((0, 1), (False, True)), False)

    def test_left(self):
        self.assertEqual(scopes_left(RING, (0,)), ((1, 2), (2, 3), (1, 3)))
        self.assertEqual(scopes_left(RING, (0, 2)), ((1, 3), (1, 3)))
        self.assertEqual(scopes_left(RING, ()), RING)
        self.assertEqual(scopes_left((), (4,)), ((),))
        self.assertEqual(scopes_left(((1,),), (4, 1)), ((), ()))
        for rng in drawn(80, 28):
            scopes = draw_scopes(rng)
            sequence = rng.sample(range(6), rng.randint(0, 6))
            told = scopes
            for thing in sequence:
                told = plain_left_out(told, thing)
            self.assertEqual(scopes_left(scopes, tuple(sequence)), told)

    def test_cluster(self):
        self.assertEqual(cluster_behind(RING, (), 0), (0, 1, 3))
        self.assertEqual(cluster_behind(RING, (1, 3), 0), (0, 2))
        self.assertEqual(cluster_behind((), (), 3), (3,))
        self.assertEqual(cluster_behind(((), (3,)), (1,), 3), (3,))
        self.assertEqual(cluster_behind(((3, 4), (4, 5)), (4, 2), 3), (3, 5))

    def test_ascending(self):
        scopes = ((8, 17, 23), (1, 8, 16))
        self.assertEqual(cluster_behind(scopes, (), 8), (1, 8, 16, 17, 23))
        self.assertEqual(scopes_left(scopes, (8,)), ((1, 16, 17, 23),))

    def test_cluster_drawn(self):
        for rng in drawn(150, 29):
            scopes = draw_scopes(rng)
            mixed = rng.sample(range(6), 6)
            many = rng.randint(0, 5)
            before, thing = tuple(mixed[:many]), mixed[many]
            cluster = cluster_behind(scopes, before, thing)
            self.assertEqual(cluster, plain_cluster(scopes, before, thing))
            left = scopes
            for other in sorted(before, reverse=rng.random() < 0.5):
                left = plain_left_out(left, other)
            union = {other for scope in left if thing in scope for other in scope} | {thing}
            self.assertEqual(cluster, tuple(sorted(union)))
            self.assertEqual(clusters_by(scopes, before + (thing,)), tuple(
                plain_cluster(scopes, before[:at], item) for at, item in enumerate(before + (thing,))))
        self.assertEqual(clusters_by(RING, ()), ())


class TestSizes(unittest.TestCase):
    def test_sizes(self):
        counts = (2, 3, 4, 5)
        self.assertEqual(lot_size(counts, ()), 1)
        self.assertEqual(lot_size(counts, (1, 3)), 15)
        self.assertEqual(sizes_by(counts, RING, (0, 2, 3, 1)), (30, 60, 15, 3))
        self.assertEqual(cost_by(counts, RING, (0, 2, 3, 1), "greatest"), 60)
        self.assertEqual(cost_by(counts, RING, (0, 2, 3, 1), "total"), 108)
        for kind in ("greatest", "total"):
            self.assertEqual(cost_by(counts, RING, (), kind), 0)
        self.assertEqual(sizes_by(counts, RING, ()), ())
        self.assertEqual(cost_by(counts=counts, scopes=((),), sequence=(2,), kind="total"), 4)

    def test_flows(self):
        self.assertEqual(flows_by(RING, (0, 2, 3, 1)), (3, 3, 1, None))
        self.assertEqual(flows_by(RING, (0, 1)), (1, None))
        self.assertEqual(flows_by((), (4, 2)), (None, None))
        self.assertEqual(flows_by(RING, ()), ())
        # The things that stay are no goals.
        self.assertEqual(flows_by(((0, 1), (0, 2)), (0, 2)), (2, None))
        self.assertEqual(flows_by(((0, 1),), (0,)), (None,))

    def test_settled(self):
        self.assertEqual(settled_sequence(RING, (2, 0, 3, 1)), (0, 2, 3, 1))
        self.assertEqual(settled_sequence((), (3, 1, 2)), (1, 2, 3))
        self.assertEqual(settled_sequence(RING, ()), ())

    def test_settled_drawn(self):
        for rng in drawn(60, 30):
            scopes = draw_scopes(rng)
            sequence = tuple(rng.sample(range(6), rng.randint(0, 5)))
            clusters = dict(zip(sequence, clusters_by(scopes, sequence)))
            flows = flows_by(scopes, sequence)
            for at, thing in enumerate(sequence):
                behind = [other for other in sequence[at + 1:] if other in clusters[thing]]
                self.assertEqual(flows[at], behind[0] if behind else None)
            like = []
            for other in permutations(sequence):
                same = dict(zip(other, clusters_by(scopes, other))) == clusters
                in_line = all(
                    goal is None or other.index(thing) < other.index(goal) for thing, goal in zip(sequence, flows))
                self.assertIs(same, in_line)
                if same:
                    like.append(other)
            self.assertEqual(settled_sequence(scopes, sequence), min(like))

    def test_greedy(self):
        self.assertEqual(greedy_sequence((2, 2, 2, 2), RING, (0, 1, 2, 3)), (0, 1, 2, 3))
        self.assertEqual(greedy_sequence((5, 2, 2, 2), RING, (0, 1, 2, 3)), (2, 0, 1, 3))
        self.assertEqual(greedy_sequence((2, 2, 2, 2), RING, ()), ())
        self.assertEqual(greedy_sequence((3, 2, 2), (), (0, 1, 2)), (1, 2, 0))
        self.assertEqual(greedy_sequence((3, 2, 2), ((0, 1), (1, 2)), (0,)), (0,))

    def test_greedy_drawn(self):
        for rng in drawn(100, 31):
            scopes = draw_scopes(rng)
            counts = tuple(rng.randint(2, 4) for _ in range(6))
            lot = draw_lot(rng, 6)
            before = ()
            while len(before) < len(lot):
                sizes = []
                for thing in lot:
                    if thing not in before:
                        sizes.append((lot_size(counts, plain_cluster(scopes, before, thing)), thing))
                before += (min(sizes)[1],)
            self.assertEqual(greedy_sequence(counts, scopes, lot), before)

    def test_sizes_drawn(self):
        for rng in drawn(40, 32):
            net = draw_net(rng)
            counts, scopes = counts_of(net), scopes_in(net)
            sequence = tuple(rng.sample(range(len(counts)), len(counts)))
            sizes = tuple(
                len(list(product(*[range(counts[thing]) for thing in cluster])))
                for cluster in clusters_by(scopes, sequence))
            self.assertEqual(sizes_by(counts, scopes, sequence), sizes)
            self.assertEqual(cost_by(counts, scopes, sequence, "greatest"), max(sizes))
            self.assertEqual(cost_by(counts, scopes, sequence, "total"), sum(sizes))

    def test_large(self):
        scopes = tuple((at, at + 1, at + 2, at + 3) for at in range(21))
        sequence = greedy_sequence((6,) * 24, scopes, tuple(range(24)))
        self.assertEqual(cost_by((6,) * 24, scopes, sequence, "greatest"), 6 ** 4)


if __name__ == "__main__":
    unittest.main()
