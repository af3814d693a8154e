"""Of point 76 the share at an entry, and points 77, 78 and 79: answers that stand, ranges and slopes."""

import unittest
from fractions import Fraction

from allworlds.moved import entry_at_spot, moved_net, moved_share, spots_of
from allworlds.nets import Net
from allworlds.plain import plain_share, plain_total
from allworlds.standing import (
    entry_for_share, nearest_move, nearest_turn, share_at_entry, share_range, slope_of_share, standing_stretch, steepest_spots,
)
from tests.cases import HALF, NO_WORLD, SURE, ErrorCase, chain_net_of, wide_net
from tests.drawn import draw_claim, draw_net, draw_news, drawn, pair_of, plain

NET = Net((("a", 2, (), (((1, 4), (3, 4)),)), ("b", 2, (0,), (HALF, ((1, 3), (2, 3))))))
NEWS = ((1, ((1, 1), (0, 1))),)
CLAIM = ("is", 0, (0,))
SPOT = (0, (), 0)


def share_at(net, news, claim, spot, x):
    """The share for an entry, or None if no worlds are left."""
    moved = moved_net(net, spot, pair_of(Fraction(x)))
    return plain(plain_share(moved, news, claim)) if plain_total(moved, news)[0] else None


def crossings(net, news, claim, spot, bar):
    """Entries of interest: the ends, the entry of now, where the share is the bar, and what lies between."""
    a, b, c, d = [plain(item) for item in moved_share(net, news, claim, spot)]
    points = {Fraction(0), Fraction(1), plain(entry_at_spot(net, spot))}
    if b != bar * d:
        points.add((bar * c - a) / (b - bar * d))
    points = sorted(point for point in points if 0 <= point <= 1)
    return sorted(points + [(one + other) / 2 for one, other in zip(points, points[1:])])


def draw_moved(rng, alive=True):
    """A net, news, a claim, a bar, and a spot; worlds are left for the net as it is, if asked."""
    while True:
        net = draw_net(rng, rng.randint(1, 3))
        news = draw_news(rng, net)
        claim = draw_claim(rng, net, 3)
        if plain_total(net, news)[0] or not alive:
            break
    spot = rng.choice(spots_of(net))
    kind = rng.randrange(4)
    bar = Fraction(rng.randint(-1, 7), 6)
    x = rng.choice((Fraction(0), Fraction(1), plain(entry_at_spot(net, spot)), Fraction(rng.randint(0, 5), 5)))
    share = share_at(net, news, claim, spot, x)
    if kind < 3 and share is not None:
        bar = share + (Fraction(1, 1000) * rng.choice((0, 0, 1, -1)))
    return net, news, claim, bar, spot


class TestStanding(ErrorCase):
    def test_examples(self):
        self.assertEqual(moved_share(NET, NEWS, CLAIM, SPOT), ((0, 1), (1, 2), (1, 3), (1, 6)))
        self.assertEqual(share_at_entry(net=NET, news=NEWS, claim=CLAIM, spot=SPOT, x=(1, 2)), (3, 5))
        self.assertEqual(standing_stretch(net=NET, news=NEWS, claim=CLAIM, bar=(3, 5), spot=SPOT), ((0, 1), True, (1, 2), False))
        self.assertEqual(standing_stretch(NET, NEWS, CLAIM, (1, 3), SPOT), ((1, 4), True, (1, 1), True))
        self.assertEqual(nearest_move(net=NET, news=NEWS, claim=CLAIM, bar=(3, 5), spot=SPOT), ((1, 2), True))
        self.assertEqual(nearest_move(NET, NEWS, CLAIM, (1, 3), SPOT), ((1, 4), False))
        self.assertEqual(nearest_turn(net=NET, news=NEWS, claim=CLAIM, bar=(1, 3)), ((0, 1), False, SPOT, (1, 4)))
        self.assertEqual(share_range(net=NET, news=NEWS, claim=CLAIM, spot=SPOT), ((0, 1), (1, 1)))
        self.assertEqual(entry_for_share(net=NET, news=NEWS, claim=CLAIM, share=(3, 5), spot=SPOT), ("one", (1, 2)))
        self.assertEqual(slope_of_share(net=NET, news=NEWS, claim=CLAIM, spot=SPOT), (32, 27))

    def test_none(self):
        self.assertIsNone(nearest_move(NET, NEWS, CLAIM, (0, 1), SPOT))
        self.assertIsNone(nearest_move(NET, NEWS, CLAIM, (3, 2), SPOT))
        self.assertEqual(nearest_move(NET, NEWS, CLAIM, (1, 1), SPOT), ((1, 1), True))
        self.assertEqual(standing_stretch(NET, NEWS, CLAIM, (1, 1), SPOT), ((0, 1), True, (1, 1), False))
        self.assertIsNone(nearest_turn(NET, NEWS, CLAIM, (0, 1)))
        self.assertIsNone(nearest_turn(NET, NEWS, ("is", 0, (0, 1)), (1, 1)))

    def test_ends_without_worlds(self):
        # The first thing has the case that is told, as long as its entry is not 0.
        told = ((0, ((1, 1), (0, 1))),)
        for claim, bar, answer in ((CLAIM, (1, 1), True), (("is", 0, (1,)), (1, 2), False)):
            self.assertEqual(standing_stretch(NET, told, claim, bar, SPOT), ((0, 1), False, (1, 1), True))
            self.assertEqual(standing_stretch(NET, told, claim, bar, (0, (), 1)), ((0, 1), True, (1, 1), False))
            self.assertIsNone(nearest_move(NET, told, claim, bar, SPOT))
            self.assertEqual(share_range(NET, told, claim, SPOT), ((int(answer), 1),) * 2)
            self.assertEqual(entry_for_share(NET, told, claim, (int(answer), 1), SPOT), ("all",))
            self.assertEqual(entry_for_share(NET, told, claim, (1, 2), SPOT), ("none",))
            self.refused("barred", share_at_entry, NET, told, claim, SPOT, (0, 1))

    def test_drawn(self):
        kinds = {}
        for rng in drawn(250, 420):
            net, news, claim, bar, spot = draw_moved(rng)
            now = plain(entry_at_spot(net, spot))
            answer = share_at(net, news, claim, spot, now) >= bar
            points = crossings(net, news, claim, spot, bar)
            answers = {x: share_at(net, news, claim, spot, x) for x in points}
            low, low_in, high, high_in = standing_stretch(net, news, claim, pair_of(bar), spot)
            low, high = plain(low), plain(high)
            self.assertTrue(0 <= low <= high <= 1)
            for x, share in answers.items():
                stands = low < x < high or x == low and low_in or x == high and high_in
                self.assertIs(stands, share is not None and (share >= bar) is answer)
            self.assertEqual([type(low_in), type(high_in)], [bool, bool])
            move = nearest_move(net, news, claim, pair_of(bar), spot)
            turned = [x for x, share in answers.items() if share is not None and (share >= bar) is not answer]
            kinds[None if move is None else move[1]] = True
            if move is None:
                self.assertEqual(turned, [])
                continue
            x, is_there = plain(move[0]), move[1]
            nearest = min(turned, key=lambda one: abs(one - now))
            if is_there:
                self.assertEqual(nearest, x)
            else:
                # The next points behind the turn are further away, and what lies between is turned, too.
                self.assertNotIn(x, turned)
                self.assertTrue(all(one > x for one in turned) if nearest > x else all(one < x for one in turned))
                side = [one for one in points if (one > x) is (nearest > x) and one != x]
                self.assertEqual([one for one in side if answers[one] is not None], turned)
        self.assertEqual(len(kinds), 3)

    def test_nearest_drawn(self):
        for rng in drawn(80, 421):
            net, news, claim, bar, _ = draw_moved(rng)
            found = []
            for spot in spots_of(net):
                move = nearest_move(net, news, claim, pair_of(bar), spot)
                if move is not None:
                    far = abs(plain(move[0]) - plain(entry_at_spot(net, spot)))
                    found.append((far, spot, move[1], move[0]))
            due = None
            if found:
                far, spot, is_there, x = min(found, key=lambda item: item[:2])
                due = (pair_of(far), is_there, spot, x)
            self.assertEqual(nearest_turn(net, news, claim, pair_of(bar)), due)

    def test_shares_drawn(self):
        for rng in drawn(200, 422):
            net, news, claim, _, spot = draw_moved(rng, False)
            shares = {}
            for top in range(9):
                x = Fraction(top, 8)
                share = share_at(net, news, claim, spot, x)
                if share is None:
                    self.refused("barred", share_at_entry, net, news, claim, spot, pair_of(x))
                else:
                    self.assertEqual(plain(share_at_entry(net, news, claim, spot, pair_of(x))), share)
                    shares[x] = share
            wanted = rng.choice(list(shares.values()) or [Fraction(1, 2)]) + Fraction(rng.choice((0, 0, 1)), 7)
            if not shares:
                self.refused("barred", share_range, net, news, claim, spot)
                self.refused("barred", entry_for_share, net, news, claim, pair_of(wanted), spot)
                continue
            least, greatest = share_range(net, news, claim, spot)
            self.assertEqual((plain(least), plain(greatest)), (min(shares.values()), max(shares.values())))
            told = entry_for_share(net, news, claim, pair_of(wanted), spot)
            if told == ("all",):
                self.assertEqual(set(shares.values()), {wanted})
            elif told == ("none",):
                self.assertNotIn(wanted, shares.values())
                if len(shares) == 9:
                    self.assertFalse(plain(least) <= wanted <= plain(greatest))
            else:
                self.assertEqual((told[0], len(told)), ("one", 2))
                self.assertEqual(share_at(net, news, claim, spot, plain(told[1])), wanted)
                self.assertGreater(len(set(shares.values())), 1)
            # It never both rises and falls.
            row = [share for _, share in sorted(shares.items())]
            self.assertIn(row, (sorted(row), sorted(row, reverse=True)))

    def test_slopes_drawn(self):
        for rng in drawn(100, 423):
            net, news, claim, _, spot = draw_moved(rng)
            slopes = {}
            for one in spots_of(net):
                a, b, c, d = [plain(item) for item in moved_share(net, news, claim, one)]
                x = plain(entry_at_spot(net, one))
                slopes[one] = (b * c - a * d) / (c + d * x) ** 2
                self.assertEqual(plain(slope_of_share(net, news, claim, one)), slopes[one])
            ranked = sorted(slopes, key=lambda one: (-abs(slopes[one]), one))
            many = rng.randint(0, len(ranked) + 1)
            told = steepest_spots(net=net, news=news, claim=claim, many=many)
            self.assertEqual(told, tuple((pair_of(slopes[one]), one) for one in ranked[:many]))
            # Of one row, each times the entry and times what is beside it.
            row = [one for one in slopes if one[:2] == spot[:2]]
            entries = [plain(entry_at_spot(net, one)) for one in row]
            self.assertEqual(sum(slopes[one] * entry * (1 - entry) for one, entry in zip(row, entries)), 0)
            # It is the slope: the differences go there.
            x = plain(entry_at_spot(net, spot))
            near = x + Fraction(1, 10 ** 9) * (-1 if x == 1 else 1)
            share = share_at(net, news, claim, spot, near)
            due = (share - share_at(net, news, claim, spot, x)) / (near - x)
            self.assertLess(abs(due - slopes[spot]), Fraction(1, 10 ** 4) * (1 + abs(slopes[spot])))

    def test_errors(self):
        for told in (standing_stretch, nearest_move):
            self.refused("barred", told, SURE, NO_WORLD, CLAIM, (1, 2), (1, (0,), 0))
            # For some entries there would be worlds, but there are none for the net as it is.
            self.refused("barred", told, SURE, NO_WORLD, CLAIM, (1, 2), SPOT)
        self.refused("barred", nearest_turn, SURE, NO_WORLD, CLAIM, (1, 2))
        self.refused("barred", steepest_spots, SURE, NO_WORLD, CLAIM, 0)
        self.refused("barred", slope_of_share, SURE, NO_WORLD, CLAIM, SPOT)
        self.refused("barred", share_range, SURE, NO_WORLD, CLAIM, (1, (0,), 0))
        self.refused("barred", entry_for_share, SURE, NO_WORLD, CLAIM, (0, 1), (1, (0,), 0))
        self.assertEqual(share_range(SURE, NO_WORLD, CLAIM, SPOT), ((0, 1), (0, 1)))
        self.assertEqual(entry_for_share(SURE, NO_WORLD, CLAIM, (0, 1), SPOT), ("all",))
        self.refused("barred", share_at_entry, SURE, NO_WORLD, CLAIM, SPOT, (1, 1))
        self.assertEqual(share_at_entry(SURE, NO_WORLD, CLAIM, SPOT, (0, 1)), (0, 1))
        net = wide_net(15)
        many = tuple(("is", thing, (1,)) for thing in range(15))
        wrong = ("and", ("or", ("and",) + many[:9], ("and",) + many[6:]), ("is", 0, (1,)))
        barred = ((3, ((0, 1), (1, 1))),)
        sure = Net(net.things[:3] + (("d", 2, (), (((1, 1), (0, 1)),)),) + net.things[4:])
        spot = (3, (), 0)
        for told in (lambda: share_at_entry(sure, barred, wrong, spot, (1, 1)),
                     lambda: standing_stretch(sure, barred, wrong, (1, 2), spot),
                     lambda: nearest_move(sure, barred, wrong, (1, 2), spot), lambda: nearest_turn(sure, barred, wrong, (1, 2)),
                     lambda: share_range(sure, barred, wrong, (4, (), 0)), lambda: slope_of_share(sure, barred, wrong, spot),
                     lambda: entry_for_share(sure, barred, wrong, (1, 2), (4, (), 0)),
                     lambda: steepest_spots(sure, barred, wrong, 1)):
            self.refused("size", told)
        self.assertEqual(share_at_entry(net, (), ("or",) + many, spot, (0, 1)), (1, 1))

    def test_long(self):
        net = chain_net_of(24)
        claim = ("is", 23, (0,))
        told = steepest_spots(net, (), claim, 3)
        self.assertEqual(told[0], (slope_of_share(net, (), claim, told[0][1]), told[0][1]))
        far, is_there, spot, x = nearest_turn(net, (), claim, (3, 5))
        self.assertEqual(nearest_move(net, (), claim, (3, 5), spot), (x, is_there))
        self.assertEqual(abs(plain(x) - plain(entry_at_spot(net, spot))), plain(far))


if __name__ == "__main__":
    unittest.main()
