"""Points 64 and 66: heard news, told things, idle parents and cut arrows."""

import unittest
from itertools import combinations

from allworlds.arrows import cut_net, heard_news, is_idle, lean_net, told_pairs
from allworlds.nets import Net, chance_at, counts_of, names_of, parents_of
from tests.drawn import all_worlds, draw_net, draw_news, drawn, plain_weight

HALF, TENTH, FIFTH = ((1, 2), (1, 2)), ((1, 10), (9, 10)), ((1, 5), (4, 5))
NET = Net((("a", 2, (), (HALF,)), ("b", 3, (), (((1, 3),) * 3,)),
           ("c", 2, (0, 1), (HALF, TENTH, HALF, HALF, HALF, TENTH)),
           ("d", 2, (0, 2), (HALF, HALF, TENTH, TENTH)), ("e", 2, (0, 3), (FIFTH,) * 4)))


def idle_by_worlds(net, thing, parent):
    """Whether the thing's fractions stay the same whenever only the case of a parent changes."""
    for world in all_worlds(net):
        for case in range(net.things[parent][1]):
            other = world[:parent] + (case,) + world[parent + 1:]
            if chance_at(net, thing, world) != chance_at(net, thing, other):
                return False
    return True


class TestTold(unittest.TestCase):
    def test_heard(self):
        news = ((0, ((2, 3), (2, 3))), (1, ((1, 1), (1, 1), (0, 1))), (2, ((1, 1), (0, 1))), (3, ((1, 1), (1, 1))))
        self.assertEqual(heard_news(NET, news), (news[1], news[2]))
        self.assertEqual(heard_news(NET, ()), ())
        self.assertEqual(heard_news(net=NET, news=news[3:]), ())

    def test_told(self):
        news = ((0, ((2, 3), (0, 1))), (1, ((0, 1), (0, 1), (7, 1))), (2, ((1, 1), (1, 2))), (3, ((0, 1), (1, 1))))
        self.assertEqual(told_pairs(NET, news), ((0, 0), (1, 2), (3, 1)))
        self.assertEqual(told_pairs(NET, ()), ())
        self.assertEqual(told_pairs(net=NET, news=news[2:3]), ())

    def test_drawn(self):
        for rng in drawn(60, 11):
            net = draw_net(rng)
            news = draw_news(rng, net, 0.8)
            self.assertEqual(heard_news(net, news), tuple(item for item in news if len(set(item[1])) > 1))
            told = [(thing, [case for case, weight in enumerate(weights) if weight[0]]) for thing, weights in news]
            self.assertEqual(told_pairs(net, news), tuple((t, cases[0]) for t, cases in told if len(cases) == 1))


class TestArrows(unittest.TestCase):
    def test_idle(self):
        self.assertIs(is_idle(NET, 2, 0), False)
        self.assertIs(is_idle(NET, 2, 1), False)
        self.assertIs(is_idle(NET, 3, 0), False)
        self.assertIs(is_idle(NET, 3, 2), True)
        self.assertIs(is_idle(net=NET, thing=4, parent=0), True)
        self.assertIs(is_idle(NET, 4, 3), True)

    def test_lean(self):
        lean = lean_net(NET)
        self.assertEqual(lean.things[:3], NET.things[:3])
        self.assertEqual(lean.things[3:], (("d", 2, (0,), (HALF, TENTH)), ("e", 2, (), (FIFTH,))))

    def test_lean_drawn(self):
        removed = 0
        for rng in drawn(80, 12):
            net = draw_net(rng, rng.randint(1, 4))
            lean = lean_net(net)
            self.assertEqual((names_of(lean), counts_of(lean)), (names_of(net), counts_of(net)))
            for thing in range(len(net.things)):
                busy = tuple(parent for parent in parents_of(net, thing) if not idle_by_worlds(net, thing, parent))
                self.assertEqual(parents_of(lean, thing), busy)
                for parent in parents_of(net, thing):
                    self.assertIs(is_idle(net, thing, parent), parent not in busy)
                removed += len(parents_of(net, thing)) - len(busy)
                for world in all_worlds(net):
                    self.assertEqual(chance_at(lean, thing, world), chance_at(net, thing, world))
        self.assertGreater(removed, 20)

    def test_least(self):
        # No lot of parents that lacks one of the lean net's tells the same fractions.
        for rng in drawn(25, 13):
            net = draw_net(rng, rng.randint(2, 4), cases=2)
            lean = lean_net(net)
            worlds = all_worlds(net)
            for thing in range(len(net.things)):
                for many in range(thing + 1):
                    for lot in combinations(range(thing), many):
                        told = {}
                        enough = all(
                            told.setdefault(tuple(world[k] for k in lot) + (world[thing],), chance_at(net, thing, world))
                            == chance_at(net, thing, world) for world in worlds)
                        if enough:
                            self.assertLessEqual(set(parents_of(lean, thing)), set(lot))

    def test_cut(self):
        news = ((0, ((1, 1), (0, 1))), (2, ((1, 1), (2, 1))))
        cut = cut_net(NET, news)
        self.assertEqual(cut.things[:2], NET.things[:2])
        self.assertEqual(cut.things[2], ("c", 2, (1,), (HALF, TENTH, HALF)))
        self.assertEqual(cut.things[3], ("d", 2, (2,), (HALF, HALF)))
        self.assertEqual(cut.things[4], ("e", 2, (3,), (FIFTH, FIFTH)))
        self.assertEqual(cut_net(NET, ((0, ((0, 1), (3, 1))),)).things[3], ("d", 2, (2,), (TENTH, TENTH)))
        self.assertEqual(cut_net(NET, ()), NET)

    def test_cut_drawn(self):
        for rng in drawn(80, 14):
            net = draw_net(rng, rng.randint(1, 4))
            news = draw_news(rng, net, 0.7)
            cut = cut_net(net, news)
            told = [thing for thing, _ in told_pairs(net, news)]
            for thing in range(len(net.things)):
                left = tuple(parent for parent in parents_of(net, thing) if parent not in told)
                self.assertEqual(parents_of(cut, thing), left)
            for world in all_worlds(net):
                self.assertEqual(plain_weight(cut, news, world), plain_weight(net, news, world))


if __name__ == "__main__":
    unittest.main()
