"""Of point 74: the worlds from a bar on, the fewest worlds with a share, and the place of a world."""

import unittest
from fractions import Fraction

from allworlds.heavy import fewest_worlds, place_of_world, worlds_from
from allworlds.plain import plain_total
from tests.cases import NO_WORLD, SURE, ErrorCase, chain_net_of, wide_net
from tests.drawn import all_worlds, draw_net, draw_news, drawn, pair_of, plain, plain_weight
from tests.ranking import shared_ranking
from tests.test_placing import NET


class TestHeavy(ErrorCase):
    def test_simple(self):
        ranking = (((2, 5), (0, 0)), ((3, 10), (1, 0)), ((3, 10), (1, 1)))
        self.assertEqual(worlds_from(net=NET, news=(), bar=(3, 10), most=3), ranking)
        self.assertEqual(worlds_from(NET, (), (31, 100), 1), ranking[:1])
        self.assertEqual(worlds_from(NET, (), (1, 2), 0), ())
        self.assertEqual(worlds_from(NET, (), (7, 2), 0), ())
        self.assertEqual(fewest_worlds(net=NET, news=(), share=(2, 5), most=1), ranking[:1])
        self.assertEqual(fewest_worlds(NET, (), (41, 100), 2), ranking[:2])
        self.assertEqual(fewest_worlds(NET, (), (1, 1), 3), ranking)
        self.assertEqual(fewest_worlds(NET, (), (0, 1), 0), ())
        for place, (_, world) in enumerate(ranking):
            self.assertEqual(place_of_world(net=NET, news=(), world=world, most=place), place)

    def test_refused(self):
        self.refused("size", worlds_from, NET, (), (3, 10), 2)
        self.refused("size", worlds_from, NET, (), (1, 3), 0)
        self.refused("size", fewest_worlds, NET, (), (1, 1), 2)
        self.refused("size", fewest_worlds, NET, (), (1, 100), 0)
        self.refused("size", place_of_world, NET, (), (1, 1), 1)
        self.refused("share", fewest_worlds, NET, (), (11, 10), 0)
        self.refused("share", fewest_worlds, SURE, NO_WORLD, (2, 1), 0)
        self.refused("barred", fewest_worlds, SURE, NO_WORLD, (0, 1), 0)
        self.refused("barred", worlds_from, SURE, NO_WORLD, (1, 1), 0)
        self.refused("barred", place_of_world, SURE, NO_WORLD, (0, 0, 0), 0)
        # A world with weight 0 is refused before the size.
        self.refused("barred", place_of_world, NET, (), (0, 1), 0)

    def test_drawn(self):
        for rng in drawn(120, 400):
            net = draw_net(rng, rng.randint(1, 4))
            news = draw_news(rng, net)
            most = rng.randint(0, 6)
            world = rng.choice(all_worlds(net))
            bar = pair_of(Fraction(rng.randint(1, 12), rng.choice((12, 100))))
            if plain_total(net, news)[0] == 0:
                for told in (worlds_from, fewest_worlds):
                    self.refused("barred", told, net, news, bar, most)
                self.refused("barred", place_of_world, net, news, world, most)
                continue
            ranking = shared_ranking(net, news, tuple(range(len(net.things))))
            kind = rng.randrange(4)
            if kind == 0:
                bar = rng.choice(ranking)[0]
            elif kind < 3:
                # The sum of a beginning, or a little more or less.
                some = sum(plain(share) for share, _ in ranking[:rng.randint(1, len(ranking))])
                bar = pair_of(min(Fraction(1), some + rng.choice((0, 1, -1)) * Fraction(1, 10 ** 9)))
            due = [placed for placed in ranking if plain(placed[0]) >= plain(bar)]
            self.told(most, due, worlds_from, net, news, bar, most)
            due, whole = [], Fraction(0)
            for placed in ranking:
                if whole < plain(bar):
                    due.append(placed)
                    whole += plain(placed[0])
            self.told(most, due, fewest_worlds, net, news, bar, most)
            if plain_weight(net, news, world) == 0:
                self.refused("barred", place_of_world, net, news, world, most)
                continue
            place = [placed[1] for placed in ranking].index(world)
            if place > most:
                self.refused("size", place_of_world, net, news, world, most)
            else:
                self.assertEqual(place_of_world(net, news, world, most), place)

    def told(self, most, due, told, *values):
        """Ask for a beginning of the ranking, or that it is refused."""
        if len(due) > most:
            self.refused("size", told, *values)
        else:
            self.assertEqual(told(*values), tuple(due))

    def test_long(self):
        net = chain_net_of(24)
        self.refused("size", fewest_worlds, net, (), (1, 1), 50)
        self.refused("size", worlds_from, net, (), (1, 10 ** 12), 50)
        first = worlds_from(net, (), (1, 20000), 1000)
        self.assertEqual(place_of_world(net, (), first[-1][1], 1000), len(first) - 1)
        self.assertGreater(len(first), 10)
        self.assertEqual(len(fewest_worlds(wide_net(1), (), (1, 1), 2)), 2)


if __name__ == "__main__":
    unittest.main()
