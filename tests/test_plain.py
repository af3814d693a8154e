"""Points 20, 21 and 22: totals, shares, likely worlds and lifts by looking at all worlds."""

import unittest
from fractions import Fraction
from itertools import product

from allworlds.errors import Refused
from allworlds.nets import Net, finding, joined_news
from allworlds.plain import (
    are_unbound, plain_best, plain_best_in, plain_lift, plain_share, plain_shares, plain_sums, plain_total,
)
from tests.drawn import (
    all_worlds, draw_claim, draw_lot, draw_net, draw_news, drawn, plain, plain_holds, plain_weight,
)

HALF, FIFTH = ((1, 2), (1, 2)), ((1, 5), (4, 5))
NET = Net((("flour", 2, (), (HALF,)), ("salt", 2, (), (FIFTH,)), ("crust", 2, (0, 1), (HALF, FIFTH, HALF, HALF))))
SURE = Net((("a", 2, (), (((1, 1), (0, 1)),)), ("b", 2, (0,), (HALF, HALF))))
NO_WORLD = (finding(SURE, 0, 1),)


def wide(things):
    """A net of so many things with two cases and no ties."""
    return Net(tuple(("abcdefghijklmnopqrstuvwx"[at], 2, (), (HALF,)) for at in range(things)))


def weights_by_filling(net, news, lot):
    """The sum of the weights for each filling of a lot."""
    found = {}
    for world in all_worlds(net):
        filling = tuple(world[thing] for thing in lot)
        found[filling] = found.get(filling, 0) + plain_weight(net, news, world)
    return found


def claim_weight(net, news, claim):
    """The sum of the weights of the worlds in which a claim holds."""
    return sum((plain_weight(net, news, world) for world in all_worlds(net) if plain_holds(claim, world)), Fraction(0))


class TestShares(unittest.TestCase):
    def test_example(self):
        self.assertEqual(plain_shares(NET, ((2, ((1, 1), (0, 1))),), (0,)), ((13, 38), (25, 38)))
        self.assertEqual(plain_best(NET, (), 2), (((8, 25), (0, 1, 1)), ((1, 5), (1, 1, 0))))
        self.assertEqual(plain_lift(NET, (), ("is", 2, (1,)), ("is", 0, (0,))), (3, 25))

    def test_names_of_parameters(self):
        claim = ("is", 0, (0,))
        self.assertEqual(plain_total(net=NET, news=()), (1, 1))
        self.assertEqual(plain_sums(net=NET, news=(), lot=(1,)), FIFTH)
        self.assertEqual(plain_share(net=NET, news=(), claim=claim), (1, 2))
        self.assertEqual(plain_shares(net=NET, news=(), lot=()), ((1, 1),))
        self.assertEqual(plain_best(net=NET, news=(), many=0), ())
        self.assertEqual(plain_best_in(net=NET, news=(), lot=(1,), many=1), (((4, 5), (1,)),))
        self.assertEqual(plain_lift(net=NET, news=(), claim=claim, other=claim), (1, 2))
        self.assertIs(are_unbound(net=NET, news=(), one=(0,), other=(1,)), True)

    def test_sums(self):
        for rng in drawn(60, 70):
            net = draw_net(rng)
            news = draw_news(rng, net)
            total = sum(plain_weight(net, news, world) for world in all_worlds(net))
            self.assertEqual(plain(plain_total(net, news)), total)
            for _ in range(3):
                lot = draw_lot(rng, len(net.things))
                sums = list(weights_by_filling(net, news, lot).values())
                fillings = list(product(*[range(net.things[thing][1]) for thing in lot]))
                told = weights_by_filling(net, news, lot)
                self.assertEqual([plain(item) for item in plain_sums(net, news, lot)], [told[item] for item in fillings])
                self.assertEqual(len(sums), len(fillings))
                if total:
                    shares = plain_shares(net, news, lot)
                    self.assertIs(type(shares), tuple)
                    self.assertEqual([plain(item) for item in shares], [told[item] / total for item in fillings])
                    self.assertEqual(sum(plain(item) for item in shares), 1)
                else:
                    self.refused("barred", plain_shares, net, news, lot)

    def test_smaller_lots(self):
        for rng in drawn(40, 71):
            net = draw_net(rng, zeros=False)
            news = draw_news(rng, net)
            lot = draw_lot(rng, len(net.things))
            part = tuple(thing for thing in lot if rng.random() < 0.5)
            counts = [net.things[thing][1] for thing in lot]
            found = {}
            for filling, share in zip(product(*[range(count) for count in counts]), plain_shares(net, news, lot)):
                key = tuple(filling[lot.index(thing)] for thing in part)
                found[key] = found.get(key, 0) + plain(share)
            self.assertEqual([plain(share) for share in plain_shares(net, news, part)], [found[key] for key in sorted(found)])

    def test_share(self):
        barred = 0
        for rng in drawn(120, 72):
            net = draw_net(rng)
            news = draw_news(rng, net)
            claim, other = draw_claim(rng, net), draw_claim(rng, net)
            total = sum(plain_weight(net, news, world) for world in all_worlds(net))
            if total == 0:
                barred += 1
                self.refused("barred", plain_share, net, news, claim)
                continue
            share = plain(plain_share(net, news, claim))
            self.assertEqual(share, claim_weight(net, news, claim) / total)
            self.assertEqual(share + plain(plain_share(net, news, ("not", claim))), 1)
            both = plain(plain_share(net, news, ("and", claim, other))) + plain(plain_share(net, news, ("or", claim, other)))
            self.assertEqual(both, share + plain(plain_share(net, news, other)))
        self.assertGreater(barred, 3)

    def refused(self, word, told, *values):
        with self.assertRaises(Refused) as caught:
            told(*values)
        self.assertEqual(caught.exception.word, word)

    def test_no_world_left(self):
        claim = ("is", 0, (0,))
        self.assertEqual(plain_total(SURE, NO_WORLD), (0, 1))
        self.assertEqual(plain_sums(SURE, NO_WORLD, (1,)), ((0, 1), (0, 1)))
        self.assertEqual(plain_sums(SURE, NO_WORLD, ()), ((0, 1),))
        for told, values in ((plain_share, (claim,)), (plain_shares, ((),)), (plain_shares, ((0, 1),)), (plain_best, (0,)),
                             (plain_best, (3,)), (plain_best_in, ((), 0)), (plain_lift, (claim, claim)),
                             (are_unbound, ((), ())), (are_unbound, ((0,), (1,)))):
            self.refused("barred", told, SURE, NO_WORLD, *values)

    def test_size(self):
        claim = ("is", 0, (0,))
        for news in ((), ((0, ((1, 1), (0, 1))),)):
            net = wide(15)
            for told, values in ((plain_total, ()), (plain_sums, ((),)), (plain_share, (claim,)), (plain_shares, ((),)),
                                 (plain_best, (0,)), (plain_best_in, ((), 0)), (plain_lift, (claim, claim)),
                                 (are_unbound, ((), ()))):
                self.refused("size", told, net, news, *values)
        # Too many worlds are told first.
        net = Net(SURE.things + wide(15).things[2:] + (("zz", 2, (), (HALF,)),) * 1)
        self.refused("size", plain_shares, net, NO_WORLD, (0,))
        net = wide(14)
        self.assertEqual(plain_total(net, ()), (1, 1))
        self.assertEqual(plain_share(net, (), ("or",) + tuple(("is", at, (1,)) for at in range(14))), (2 ** 14 - 1, 2 ** 14))
        self.assertEqual(len(plain_best(net, (), 20000)), 2 ** 14)

    def test_at_the_bound(self):
        counts = (5, 5, 5, 5, 2, 2, 2, 2, 2)
        rows = [tuple((1, count) for _ in range(count)) for count in counts]
        net = Net(tuple(("abcdefghi"[at], count, (), (rows[at],)) for at, count in enumerate(counts)))
        self.assertEqual(plain_total(net, ()), (1, 1))
        self.assertEqual(plain_best(net, (), 1), (((1, 20000), (0,) * 9),))


class TestBest(unittest.TestCase):
    def test_drawn(self):
        for rng in drawn(80, 73):
            net = draw_net(rng)
            news = draw_news(rng, net)
            total = sum(plain_weight(net, news, world) for world in all_worlds(net))
            if total == 0:
                continue
            for lot in (tuple(range(len(net.things))), draw_lot(rng, len(net.things)), ()):
                told = weights_by_filling(net, news, lot)
                ranked = sorted([(-weight / total, filling) for filling, weight in told.items() if weight])
                ranked = [(-share, filling) for share, filling in ranked]
                for many in (0, 1, 2, 5, len(ranked), len(ranked) + 1, 10 ** 30):
                    best = plain_best_in(net, news, lot, many)
                    self.assertIs(type(best), tuple)
                    self.assertEqual([(plain(share), filling) for share, filling in best], ranked[:many])
                    if len(lot) == len(net.things):
                        self.assertEqual(plain_best(net, news, many), best)

    def test_equal_shares(self):
        net = wide(3)
        self.assertEqual(plain_best(net, (), 9), tuple(((1, 8), world) for world in product(range(2), repeat=3)))
        self.assertEqual(plain_best_in(net, (), (0, 2), 3), (((1, 4), (0, 0)), ((1, 4), (0, 1)), ((1, 4), (1, 0))))
        self.assertEqual(plain_best_in(net, (), (), 3), (((1, 1), ()),))

    def test_close_shares(self):
        low, high = (499999, 999999), (500000, 999999)
        net = Net((("a", 2, (), ((low, high),)), ("b", 2, (), (((500000, 1000001), (500001, 1000001)),))))
        best = plain_best(net, (), 4)
        self.assertEqual([world for _, world in best], [(1, 1), (1, 0), (0, 1), (0, 0)])

    def test_best_filling_in_no_best_world(self):
        net = Net((("a", 2, (), (((2, 5), (3, 5)),)), ("b", 2, (0,), (((1, 1), (0, 1)), HALF))))
        self.assertEqual(plain_best_in(net, (), (0,), 1), (((3, 5), (1,)),))
        self.assertEqual(plain_best(net, (), 1), (((2, 5), (0, 0)),))


class TestConditions(unittest.TestCase):
    def refused(self, word, told, *values):
        with self.assertRaises(Refused) as caught:
            told(*values)
        self.assertEqual(caught.exception.word, word)

    def test_lift(self):
        barred = 0
        for rng in drawn(120, 74):
            net = draw_net(rng)
            news = draw_news(rng, net)
            claim, other = draw_claim(rng, net), draw_claim(rng, net)
            total = sum(plain_weight(net, news, world) for world in all_worlds(net))
            weight = claim_weight(net, news, other)
            if total == 0 or weight == 0:
                barred += 1
                self.refused("barred", plain_lift, net, news, claim, other)
                continue
            both = claim_weight(net, news, ("and", claim, other))
            lift = both / weight - claim_weight(net, news, claim) / total
            self.assertEqual(plain(plain_lift(net, news, claim, other)), lift)
        self.assertGreater(barred, 10)

    def test_lift_by_finding(self):
        for rng in drawn(60, 75):
            net = draw_net(rng)
            news = draw_news(rng, net, 0.3)
            claim = draw_claim(rng, net)
            thing = rng.randrange(len(net.things))
            case = rng.randrange(net.things[thing][1])
            other = ("is", thing, (case,))
            if claim_weight(net, news, other) == 0:
                self.refused("barred", plain_lift, net, news, claim, other)
                continue
            told = plain_share(net, joined_news(news, (finding(net, thing, case),)), claim)
            self.assertEqual(plain(plain_lift(net, news, claim, other)), plain(told) - plain(plain_share(net, news, claim)))

    def test_share_0(self):
        self.refused("barred", plain_lift, NET, (), ("is", 0, (0,)), ("is", 1, ()))
        self.assertEqual(plain_lift(NET, (), ("is", 1, ()), ("is", 0, (0,))), (0, 1))

    def test_unbound(self):
        seen = {True: 0, False: 0}
        for rng in drawn(150, 76):
            net = draw_net(rng)
            news = draw_news(rng, net, 0.3)
            total = sum(plain_weight(net, news, world) for world in all_worlds(net))
            if total == 0:
                continue
            things = list(range(len(net.things)))
            one = tuple(thing for thing in things if rng.random() < 0.4)
            other = tuple(thing for thing in things if thing not in one and rng.random() < 0.5)
            ones, others = weights_by_filling(net, news, one), weights_by_filling(net, news, other)
            told = all(
                weight / total == ones[filling[:len(one)]] / total * others[filling[len(one):]] / total
                for filling, weight in weights_by_filling(net, news, one + other).items())
            self.assertIs(are_unbound(net, news, one, other), told)
            self.assertIs(are_unbound(net, news, other, one), told)
            seen[told] += 1
            if told and one and other:
                claim, beside = ("is", one[0], (0,)), ("is", other[-1], (1,))
                if claim_weight(net, news, beside):
                    self.assertEqual(plain_lift(net, news, claim, beside), (0, 1))
        self.assertGreater(min(seen.values()), 10)
        self.assertIs(are_unbound(NET, (), (), (0, 1, 2)), True)
        self.assertIs(are_unbound(NET, (), (), ()), True)
        self.assertIs(are_unbound(NET, (), (2,), (0,)), False)


if __name__ == "__main__":
    unittest.main()
