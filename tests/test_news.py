"""Points 3, 10 and 11: news, and nets made of nets."""

import unittest
from fractions import Fraction

from allworlds.errors import InvalidNet, InvalidNews, Refused
from allworlds.nets import (
    Net, check_news, finding, joined_news, names_of, older_lot, renamed, subnet, weights_in, with_rows,
)
from tests.drawn import (
    NO_INTEGERS, NO_TUPLES, Odd, all_worlds, draw_lot, draw_net, draw_news, drawn, nest, plain, plain_weight,
    plain_world_share,
)

HALF, FIFTH = ((1, 2), (1, 2)), ((1, 5), (4, 5))
ODDS = ((1, 6), (1, 3), (1, 2))
NET = Net((("flour", 2, (), (HALF,)), ("salt", 3, (), (ODDS,)), ("crust", 2, (0,), (HALF, FIFTH))))
ONES, THREE = ((1, 1), (1, 1)), ((1, 1), (0, 1), (7, 2))


class TestNews(unittest.TestCase):
    def refused_at(self, value, at):
        with self.assertRaises(InvalidNews) as caught:
            check_news(NET, value)
        self.assertEqual(caught.exception.at, at)

    def test_right(self):
        for news in ((), ((0, ONES),), ((0, ONES), (1, THREE), (2, ((0, 1), (10 ** 9, 1)))), ((1, ODDS),)):
            self.assertIsNone(check_news(NET, news))
        self.assertIsNone(check_news(net=NET, value=()))

    def test_no_tuple(self):
        for value in NO_TUPLES + ([(0, ONES)],):
            self.refused_at(value, -1)

    def test_items(self):
        for item in NO_TUPLES + ((), (0,), (0, ONES, 1), [0, ONES], nest(100000)):
            self.refused_at((item,), 0)
            self.refused_at(((0, ONES), item, item), 1)

    def test_things(self):
        for thing in NO_INTEGERS + (-1, 3, 10 ** 30, "flour"):
            self.refused_at(((thing, ONES),), 0)
            self.refused_at(((0, ONES), (thing, ONES)), 1)

    def test_weights(self):
        zero = ((0, 1), (0, 1))
        wrong = NO_TUPLES + ((), ((1, 1),), THREE, zero, list(ONES), ((1, 1), (-1, 1)), ((2, 2), (1, 1)), ((1, 1), 1),
                             ((1, 1), (0, 2)), ((1, 1), (1, 0)), ((True, 1), (1, 1)), ((1, 1), (1, True)), ((1, 1), None),
                             (Odd(), (1, 1)), nest(100000), (nest(100000), (1, 1)))
        for weights in wrong:
            self.refused_at(((0, weights),), 0)
            self.refused_at(((0, ONES), (2, weights)), 1)
        self.refused_at(((1, ONES),), 0)

    def test_ascending(self):
        self.refused_at(((0, ONES), (0, ONES)), 1)
        self.refused_at(((1, THREE), (0, ONES)), 1)
        self.refused_at(((0, ONES), (2, ONES), (1, THREE)), 2)

    def test_first_of_two(self):
        self.refused_at(((0, ONES), (0, ONES), None), 1)
        self.refused_at((None, (0, None)), 0)

    def test_finding(self):
        self.assertEqual(finding(NET, 1, 2), (1, ((0, 1), (0, 1), (1, 1))))
        self.assertEqual(finding(net=NET, thing=0, case=0), (0, ((1, 1), (0, 1))))

    def test_weights_in(self):
        news = ((0, HALF), (1, THREE))
        self.assertEqual([weights_in(NET, news, thing) for thing in range(3)], [HALF, THREE, ONES])
        self.assertEqual(weights_in(NET, (), 1), ((1, 1),) * 3)

    def test_joined(self):
        one, other = ((0, HALF), (1, THREE)), ((1, ((1, 3), (5, 1), (2, 7))), (2, FIFTH))
        self.assertEqual(joined_news(one, other), ((0, HALF), (1, ((1, 3), (0, 1), (1, 1))), (2, FIFTH)))
        self.assertEqual(joined_news((), ()), ())
        self.assertEqual(joined_news((), other), other)
        self.assertEqual(joined_news(other, ()), other)
        self.assertEqual(joined_news(((2, ONES),), ((0, HALF),)), ((0, HALF), (2, ONES)))

    def test_joined_barred(self):
        with self.assertRaises(Refused) as caught:
            joined_news((finding(NET, 0, 0),), (finding(NET, 0, 1), finding(NET, 1, 1)))
        self.assertEqual(caught.exception.word, "barred")

    def test_joined_drawn(self):
        for rng in drawn(80, 9):
            net = draw_net(rng, rng.randint(1, 4))
            one, other = draw_news(rng, net), draw_news(rng, net)
            worlds = all_worlds(net)

            def weight(world):
                found = plain_weight(net, one, world)
                for thing, weights in other:
                    found *= plain(weights[world[thing]])
                return found

            try:
                both = joined_news(one, other)
            except Refused as error:
                self.assertEqual(error.word, "barred")
                self.assertTrue(any(
                    all(a[0] == 0 or b[0] == 0 for a, b in zip(dict(one)[thing], weights))
                    for thing, weights in other if thing in dict(one)))
                self.assertTrue(all(weight(world) == 0 for world in worlds))
            else:
                check_news(net, both)
                self.assertEqual([thing for thing, _ in both], sorted(set(dict(one)) | set(dict(other))))
                for world in worlds:
                    self.assertEqual(plain_weight(net, both, world), weight(world))


class TestNetsMade(unittest.TestCase):
    def test_subnet(self):
        self.assertEqual(subnet(NET, (2,)).things, (NET.things[0], NET.things[2]))
        self.assertEqual(subnet(NET, (0, 1, 2)), NET)
        row = (HALF, FIFTH, HALF)
        net = Net((("a", 2, (), (HALF,)), ("b", 3, (), (ODDS,)), ("c", 2, (1,), row), ("d", 2, (0,), (HALF, HALF))))
        self.assertEqual(subnet(net, (2,)).things, (("b", 3, (), (ODDS,)), ("c", 2, (0,), row)))

    def test_subnet_drawn(self):
        for rng in drawn(60, 10):
            net = draw_net(rng)
            lot = draw_lot(rng, len(net.things)) or (0,)
            kept = older_lot(net, lot)
            less = subnet(net, lot)
            self.assertEqual(names_of(less), tuple(net.things[thing][0] for thing in kept))
            sums = {world: Fraction(0) for world in all_worlds(less)}
            for world in all_worlds(net):
                sums[tuple(world[thing] for thing in kept)] += plain_world_share(net, world)
            for world, share in sums.items():
                self.assertEqual(plain_world_share(less, world), share)

    def test_renamed(self):
        self.assertEqual(names_of(renamed(NET, ("a", "is", "of"))), ("a", "is", "of"))
        self.assertEqual(renamed(NET, ("salt", "crust", "flour")).things[1], ("crust", 3, (), (ODDS,)))
        self.assertEqual(renamed(net=NET, names=names_of(NET)), NET)
        self.assertEqual(names_of(NET), ("flour", "salt", "crust"))

    def test_renamed_wrong(self):
        wrong = NO_TUPLES + ((), ("a", "b"), ("a", "b", "c", "d"), ["a", "b", "c"], ("a", "b", "a"), ("a", "b", "C"),
                             ("a", "b", ""), ("a", "b", "abcdefg"), ("a", "b", 3), ("a", None, "c"), (Odd(), "b", "c"),
                             ("a", ["b"], "c"), ("a", nest(100000), "c"), "abc", nest(100000))
        for names in wrong:
            with self.assertRaises(Refused) as caught:
                renamed(NET, names)
            self.assertEqual(caught.exception.word, "names")

    def test_with_rows(self):
        self.assertEqual(with_rows(NET, 2, (FIFTH, HALF)).things, NET.things[:2] + (("crust", 2, (0,), (FIFTH, HALF)),))
        self.assertEqual(with_rows(NET, 0, (FIFTH,)).things, (("flour", 2, (), (FIFTH,)),) + NET.things[1:])
        self.assertEqual(with_rows(net=NET, thing=1, rows=(ODDS,)), NET)

    def test_with_rows_wrong(self):
        wrong = NO_TUPLES + ((), (HALF,), (HALF,) * 3, [HALF, HALF], (HALF, None), (HALF, list(HALF)), (HALF, ODDS),
                             (HALF, ((1, 2), (1, 3))), (((3, 2), (-1, 2)), HALF), (HALF, ((2, 2), (0, 1))), (Odd(), HALF),
                             (HALF, ((True, 1), (0, 1))), (HALF, nest(100000)), nest(100000))
        for rows in wrong:
            with self.assertRaises(InvalidNet) as caught:
                with_rows(NET, 2, rows)
            self.assertEqual(caught.exception.at, 2)
        with self.assertRaises(InvalidNet) as caught:
            with_rows(NET, 1, (HALF,))
        self.assertEqual(caught.exception.at, 1)


if __name__ == "__main__":
    unittest.main()
