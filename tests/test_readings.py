"""Point 45, and of point 46 the slopes."""

import unittest
from fractions import Fraction

from allworlds.errors import InvalidClaim
from allworlds.nets import counts_of, family_of, with_rows
from allworlds.papers import own_tree, paper_of, paper_with, total_in
from allworlds.plain import plain_share, plain_shares, plain_sums, plain_total
from allworlds.readings import lot_shares, lot_weights, news_slopes, share_in, slopes_of, total_by
from allworlds.tables import Table, counts_in, is_table, table_of, table_of_news
from tests.cases import NO_WORLD, SURE, ErrorCase, chain_net_of, wide_net
from tests.drawn import (
    NO_TUPLES, all_worlds, draw_claim, draw_lot, draw_net, draw_news, draw_row, draw_weights, drawn, nest, pair_of, plain,
    plain_row, plain_world_share,
)
from tests.questions import lots_of
from tests.test_messages import KILN, NEWS, TREE
from tests.test_papers import draw_paper


def weight_without(net, news, world, thing, without_news):
    """The weight of a world without the factor of one table of a thing."""
    weight = Fraction(1)
    for other in range(len(net.things)):
        if other != thing or without_news:
            weight *= plain(plain_row(net, other, world)[world[other]])
    for other, weights in news:
        if other != thing or not without_news:
            weight *= plain(weights[world[other]])
    return weight


class TestLots(ErrorCase):
    def test_drawn(self):
        for rng in drawn(40, 320):
            net, news, paper = draw_paper(rng)
            total = plain_total(net, news)
            for lot in lots_of(range(len(net.things))):
                table = lot_weights(net=net, news=news, paper=paper, lot=lot)
                self.assertTrue(is_table(table))
                self.assertEqual((table.things, table.counts), (lot, counts_in(net, lot)))
                self.assertEqual(table.entries, plain_sums(net, news, lot))
                if total[0]:
                    shares = lot_shares(net=net, news=news, paper=paper, lot=lot)
                    self.assertEqual((shares.things, shares.entries), (lot, plain_shares(net, news, lot)))
                else:
                    self.refused("barred", lot_shares, net, news, paper, lot)

    def test_far_apart(self):
        net = chain_net_of(24)
        news = ((11, ((1, 3), (2, 1))),)
        paper = paper_of(net, news)
        table = lot_weights(net, news, paper, (0, 12, 23))
        small = chain_net_of(13)
        for number, weight in enumerate(plain_sums(small, news, (0, 12))):
            pair = [plain(entry) for entry in table.entries[2 * number:2 * number + 2]]
            self.assertEqual(sum(pair), plain(weight))
        self.assertEqual(lot_weights(net, news, paper, ()).entries, (total_in(paper),))


class TestClaims(ErrorCase):
    def test_drawn(self):
        for rng in drawn(150, 321):
            net, news, paper = draw_paper(rng)
            claim = draw_claim(rng, net)
            if total_in(paper)[0]:
                self.assertEqual(share_in(net=net, news=news, paper=paper, claim=claim), plain_share(net, news, claim))
            else:
                self.refused("barred", share_in, net, news, paper, claim)

    def test_errors(self):
        paper = paper_of(KILN, NEWS, TREE)
        for value in NO_TUPLES + ((), nest(100000)):
            self.raised(InvalidClaim, 0, share_in, KILN, NEWS, paper, value)
            self.raised(InvalidClaim, 1, share_in, KILN, NEWS, paper, ("not", value))
        self.raised(InvalidClaim, 2, share_in, KILN, NEWS, paper, ("and", ("is", 0, (1,)), ("is", 2, (1,))))
        net = wide_net(15)
        barred = ((0, ((1, 1), (0, 1))),)
        paper = paper_of(net, barred)
        many = ("or",) + tuple(("is", thing, (1,)) for thing in range(15))
        self.refused("size", share_in, net, barred, paper, many)
        self.raised(InvalidClaim, 17, share_in, net, barred, paper, ("or", many, ("is", 15, ())))
        self.assertEqual(share_in(net, (), paper_of(net, ()), many[:15]), (2 ** 14 - 1, 2 ** 14))
        # The size is refused before the total, what is no claim before both.
        both = SURE.things + tuple((name + "x",) + thing[1:] for name, thing in zip("defghijklmnopqr", net.things))
        wide = type(SURE)(both)
        paper = paper_of(wide, NO_WORLD)
        large = ("or",) + tuple(("is", thing, (1,)) for thing in range(18))
        self.refused("size", share_in, wide, NO_WORLD, paper, large)
        self.refused("barred", share_in, wide, NO_WORLD, paper, ("is", 1, ()))
        self.raised(InvalidClaim, 1, share_in, wide, NO_WORLD, paper, ("not", ("is", 18, ())))


class TestSlopes(unittest.TestCase):
    def test_drawn(self):
        for rng in drawn(60, 322):
            net, news, paper = draw_paper(rng)
            for thing in range(len(net.things)):
                for told, lot, alone in ((slopes_of, family_of(net, thing), False), (news_slopes, (thing,), True)):
                    table = told(net=net, news=news, paper=paper, thing=thing)
                    due = {}
                    for world in all_worlds(net):
                        key = tuple(world[at] for at in lot)
                        due[key] = due.get(key, 0) + weight_without(net, news, world, thing, alone)
                    self.assertEqual((table.things, table.counts), (lot, counts_in(net, lot)))
                    self.assertEqual([plain(entry) for entry in table.entries], [due[key] for key in sorted(due)])

    def test_stay(self):
        for rng in drawn(60, 323):
            net, news, paper = draw_paper(rng)
            thing = rng.randrange(len(net.things))
            count, rows = net.things[thing][1], net.things[thing][3]
            other = with_rows(net, thing, tuple(draw_row(rng, count) for _ in rows))
            changed = paper_with(other, news, paper.tree, paper.homes)
            slopes = slopes_of(net, news, paper, thing)
            self.assertEqual(slopes_of(other, news, changed, thing), slopes)
            self.assertEqual(total_by(slopes=slopes, table=table_of(other, thing)), plain_total(other, news))
            told = tuple(item for item in news if item[0] != thing) + ((thing, draw_weights(rng, count)),)
            told = tuple(sorted(told))
            turned = paper_with(net, told, paper.tree, paper.homes)
            slopes = news_slopes(net, news, paper, thing)
            self.assertEqual(news_slopes(net, told, turned, thing), slopes)
            self.assertEqual(total_by(slopes, table_of_news(net, told, thing)), plain_total(net, told))

    def test_total_by(self):
        one = Table((0, 1), (2, 2), ((1, 2), (-1, 3), (0, 1), (5, 1)))
        other = Table((0, 1), (2, 2), ((1, 1), (3, 1), (7, 1), (1, 5)))
        self.assertEqual(total_by(one, other), (1, 2))
        self.assertEqual(total_by(Table((), (), ((1, 2),)), Table((), (), ((1, 3),))), (1, 6))

    def test_equal_tables(self):
        # A thing whose row and news are the same, and another one with the same home.
        net = wide_net(2)
        news = ((0, ((1, 2), (1, 2))), (1, ((1, 2), (1, 2))))
        paper = paper_of(net, news, (((0, 1),), (-1,)))
        self.assertEqual(slopes_of(net, news, paper, 0).entries, ((1, 4), (1, 4)))
        self.assertEqual(news_slopes(net, news, paper, 1).entries, ((1, 4), (1, 4)))


if __name__ == "__main__":
    unittest.main()
