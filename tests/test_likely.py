"""Points 69 and 73, and of point 74 the best worlds by case."""

import unittest

from allworlds.bestpapers import is_best_paper
from allworlds.bounds import rims_of, start_of
from allworlds.likely import Listing, best_by_case, best_fillings, best_paper, best_worlds
from allworlds.nets import counts_of
from allworlds.placing import best_messages, is_mixed_sequence, line_of
from allworlds.plain import plain_best, plain_best_in, plain_total
from tests.cases import NO_WORLD, SURE, ErrorCase, chain_net_of, wide_net
from tests.drawn import draw_net, draw_news, drawn, plain
from tests.ranking import draw_any_lot, draw_mixed, plain_ranking, shared_ranking
from tests.test_placing import NET


class TestBest(ErrorCase):
    def test_examples(self):
        self.assertEqual(best_worlds(net=NET, news=(), many=9), (
            ((2, 5), (0, 0)), ((3, 10), (1, 0)), ((3, 10), (1, 1))))
        self.assertEqual(best_fillings(net=NET, news=(), lot=(0,), many=1), (((3, 5), (1,)),))
        self.assertEqual(best_fillings(NET, (), (), 3), (((1, 1), ()),))
        self.assertEqual(best_fillings(NET, (), (0, 1), 10 ** 30), best_worlds(NET, (), 3))
        self.assertEqual(best_by_case(net=NET, news=(), thing=1), (((2, 5), (0, 0)), ((3, 10), (1, 1))))
        self.assertEqual(best_by_case(SURE, (), 0), (((1, 4), (0, 0, 0)), None))

    def test_drawn(self):
        apart = 0
        for rng in drawn(120, 390):
            net = draw_net(rng)
            news = draw_news(rng, net)
            lot = draw_any_lot(rng, net)
            many = rng.randint(1, 8)
            if plain_total(net, news)[0] == 0:
                self.refused("barred", best_fillings, net, news, lot, many)
                self.refused("barred", best_worlds, net, news, many)
                self.refused("barred", best_by_case, net, news, 0)
                continue
            told = best_fillings(net, news, lot, many)
            self.assertEqual(told, tuple(shared_ranking(net, news, lot)[:many]))
            self.assertEqual(told, plain_best_in(net, news, lot, many))
            worlds = best_worlds(net, news, many)
            self.assertEqual(worlds, plain_best(net, news, many))
            apart += told[0][1] != tuple(worlds[0][1][thing] for thing in lot)
            self.by_case(net, news)
        self.assertGreater(apart, 0)

    def by_case(self, net, news):
        """Ask all best worlds by case."""
        ranking = shared_ranking(net, news, tuple(range(len(net.things))))
        others = []
        for thing, count in enumerate(counts_of(net)):
            firsts = best_by_case(net, news, thing)
            self.assertEqual(firsts, tuple(next((placed for placed in ranking if placed[1][thing] == case), None)
                                           for case in range(count)))
            others += [placed for placed in firsts if placed is not None and placed != ranking[0]]
        if len(ranking) > 1:
            self.assertEqual(min(others, key=lambda placed: (-plain(placed[0]), placed[1])), ranking[1])
        else:
            self.assertEqual(others, [])

    def test_equal(self):
        # Equal shares come by ascending fillings.
        self.assertEqual([world for _, world in best_worlds(wide_net(3), (), 9)],
                         [(a, b, c) for a in range(2) for b in range(2) for c in range(2)])
        self.assertEqual([filling for _, filling in best_fillings(wide_net(3, 3), (), (0, 2), 4)],
                         [(0, 0), (0, 1), (0, 2), (1, 0)])

    def test_barred(self):
        self.refused("barred", best_fillings, SURE, NO_WORLD, (), 1)
        self.refused("barred", best_fillings, SURE, NO_WORLD, (1,), 1)
        self.refused("barred", best_worlds, SURE, NO_WORLD, 1)
        for thing in range(3):
            self.refused("barred", best_by_case, SURE, NO_WORLD, thing)

    def test_long(self):
        net = chain_net_of(24)
        worlds = best_worlds(net, (), 300)
        self.assertEqual(len({world for _, world in worlds}), 300)
        self.assertEqual(list(worlds), sorted(worlds, key=lambda placed: (-plain(placed[0]), placed[1])))
        self.assertEqual(best_fillings(net, (), tuple(range(24)), 300), worlds)
        firsts = best_by_case(net, (), 12)
        self.assertIn(worlds[0], firsts)
        for case, (_, world) in enumerate(firsts):
            self.assertEqual(world[12], case)


class TestPapers(unittest.TestCase):
    def test_drawn(self):
        for rng in drawn(120, 391):
            net = draw_net(rng)
            news = draw_news(rng, net)
            lot = draw_any_lot(rng, net)
            many = rng.randint(1, 8)
            paper = best_paper(net=net, news=news, lot=lot, many=many)
            self.assertTrue(is_best_paper(net, news, many, paper))
            self.assertEqual((paper.lot, type(paper.listing)), (lot, tuple))
            self.assertTrue(is_mixed_sequence(net, lot, paper.sequence))
            self.assertEqual(paper.listing, tuple(plain_ranking(net, news, lot)[:many]))
        self.assertEqual(best_paper(SURE, NO_WORLD, (1,), 3).listing, ())
        self.assertTrue(is_best_paper(SURE, NO_WORLD, 3, best_paper(SURE, NO_WORLD, (1,), 3)))

    def test_of_listings(self):
        for rng in drawn(80, 392):
            net = draw_net(rng)
            news = draw_news(rng, net)
            lot = draw_any_lot(rng, net)
            sequence = draw_mixed(rng, net, lot)
            listing = Listing(net, news, lot, sequence)
            for many in range(1, 5):
                listing.following()
                paper = listing.paper()
                self.assertEqual((paper.lot, paper.sequence, paper.listing), (lot, sequence, listing.ranked))
                self.assertEqual(paper.messages, best_messages(net, news, lot, sequence))
                self.assertTrue(is_best_paper(net, news, many, paper))


class TestListings(unittest.TestCase):
    def test_example(self):
        listing = Listing(NET, (), (0, 1), (1, 0))
        self.assertEqual((listing.ranked, listing.waiting), ((), (((2, 5), (0, 0)),)))
        self.assertEqual(listing.following(), ((2, 5), (0, 0)))
        self.assertEqual(listing.waiting, (((3, 10), (1, 0)),))
        self.assertEqual([listing.following() for _ in range(4)], [((3, 10), (1, 0)), ((3, 10), (1, 1)), None, None])
        self.assertEqual((len(listing.ranked), listing.waiting), (3, ()))

    def test_attributes(self):
        listing = Listing(net=NET, news=(), lot=(0,), sequence=(1, 0))
        self.assertEqual((listing.net, listing.news, listing.lot, listing.sequence), (NET, (), (0,), (1, 0)))
        for name in ("ranked", "waiting"):
            self.assertIsInstance(vars(Listing)[name], property)

    def test_drawn(self):
        for rng in drawn(100, 393):
            net = draw_net(rng, rng.randint(1, 4))
            news = draw_news(rng, net)
            lot = draw_any_lot(rng, net)
            sequence = draw_mixed(rng, net, lot)
            line = line_of(lot, sequence)
            ranking = plain_ranking(net, news, lot)
            listing, beside = Listing(net, news, lot, sequence), Listing(net, news, lot, sequence)
            for many in range(len(ranking) + 2):
                self.assertEqual(listing.ranked, tuple(ranking[:many]))
                self.assertEqual(type(listing.waiting), tuple)
                starts = [start_of(lot, line, filling) for _, filling in ranking[:many]]
                firsts = []
                for rim in rims_of(counts_of(net), line, starts):
                    having = [placed for placed in ranking if start_of(lot, line, placed[1])[:len(rim)] == rim]
                    firsts += having[:1]
                self.assertEqual(listing.waiting, tuple(sorted(firsts, key=ranking.index)))
                self.assertEqual(listing.following(), ranking[many] if many < len(ranking) else None)
            # One listing does not change another one.
            self.assertEqual(beside.ranked, ())
            self.assertEqual(beside.following(), ranking[0] if ranking else None)


if __name__ == "__main__":
    unittest.main()
