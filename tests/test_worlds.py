"""Points 2, 3 and 17: worlds."""

import unittest

from allworlds.errors import Refused
from allworlds.fillings import fillings_of
from allworlds.nets import Net, finding
from allworlds.worlds import is_world, news_weight, weighted_worlds, world_count, world_share, worlds_of
from tests.drawn import (
    NO_INTEGERS, NO_TUPLES, Odd, all_worlds, draw_net, draw_news, drawn, nest, plain, plain_weight, plain_world_share,
)

HALF, FIFTH = ((1, 2), (1, 2)), ((1, 5), (4, 5))
NET = Net((("flour", 2, (), (HALF,)), ("salt", 2, (), (FIFTH,)), ("crust", 2, (0, 1), (HALF, FIFTH, HALF, HALF))))


def free_net(counts):
    """A net of things without parents."""
    rows = [tuple([(1, count)] * count) for count in counts]
    return Net(tuple(("t" + chr(97 + at), count, (), (rows[at],)) for at, count in enumerate(counts)))


class TestWorlds(unittest.TestCase):
    def test_net(self):
        self.assertEqual(world_count(NET), 8)
        self.assertEqual(worlds_of(NET), tuple(all_worlds(NET)))
        self.assertEqual(world_share(NET, (0, 1, 1)), (8, 25))
        self.assertEqual(world_share(NET, (1, 1, 0)), (1, 5))
        news = ((0, ((0, 1), (3, 1))), (2, ((1, 7), (1, 1))))
        self.assertEqual(news_weight(NET, news, (1, 1, 0)), (3, 35))
        self.assertEqual(news_weight(NET, news, (0, 1, 0)), (0, 1))
        self.assertEqual(weighted_worlds(NET, (finding(NET, 0, 0), finding(NET, 2, 1))), (
            ((0, 0, 1), (1, 20)), ((0, 1, 1), (8, 25))))

    def test_no_world_left(self):
        net = Net((("a", 2, (), (((1, 1), (0, 1)),)),))
        self.assertEqual(weighted_worlds(net, (finding(net, 0, 1),)), ())
        self.assertEqual(weighted_worlds(net, ()), (((0,), (1, 1)),))

    def test_is_world(self):
        for world in all_worlds(NET):
            self.assertIs(is_world(NET, world), True)
        wrong = NO_TUPLES + ((), (0, 0), (0, 0, 0, 0), [0, 0, 0], (0, 0, 2), (-1, 0, 0), (0, 2, 0), nest(100000))
        for value in wrong:
            self.assertIs(is_world(NET, value), False)
        for value in NO_INTEGERS + (Odd(),):
            self.assertIs(is_world(NET, (value, 0, 0)), False)
            self.assertIs(is_world(NET, (0, 0, value)), False)

    def test_drawn(self):
        for rng in drawn(60, 20):
            net = draw_net(rng)
            news = draw_news(rng, net)
            worlds = all_worlds(net)
            self.assertEqual(world_count(net), len(worlds))
            self.assertEqual(worlds_of(net), tuple(worlds))
            told = []
            for world in worlds:
                weight = plain_weight(net, news, world)
                self.assertEqual(plain(world_share(net, world)), plain_world_share(net, world))
                self.assertEqual(plain(news_weight(net, news, world)), weight)
                if weight:
                    told.append((world, weight))
            found = weighted_worlds(net, news)
            self.assertIs(type(found), tuple)
            self.assertEqual([(world, plain(weight)) for world, weight in found], told)
            self.assertEqual(sum(plain(weight) for _, weight in weighted_worlds(net, ())), 1)

    def test_most(self):
        # 5 ** 4 * 2 ** 5 is 20000.
        counts = (5, 5, 5, 5, 2, 2, 2, 2, 2)
        net = free_net(counts)
        self.assertEqual(world_count(net), 20000)
        self.assertEqual(worlds_of(net), fillings_of(counts))
        self.assertEqual(len(weighted_worlds(net, ())), 20000)

    def test_too_many(self):
        for counts in ((3, 59, 113), (2,) * 15, (6,) * 24):
            net = free_net(counts)
            for call in (lambda: worlds_of(net), lambda: weighted_worlds(net, ()),
                         lambda: weighted_worlds(net, tuple(finding(net, at, 0) for at in range(len(counts))))):
                with self.assertRaises(Refused) as caught:
                    call()
                self.assertEqual(caught.exception.word, "size")
            self.assertIs(is_world(net, (0,) * len(counts)), True)
            self.assertEqual(plain(news_weight(net, (), (1,) * len(counts))), plain_weight(net, (), (1,) * len(counts)))
        self.assertEqual(world_count(free_net((3, 59, 113))), 20001)
        self.assertEqual(world_count(free_net((6,) * 24)), 6 ** 24)


if __name__ == "__main__":
    unittest.main()
