"""Looks at small nets, and the ways in which the sums are found of which looks are made."""

import unittest
from fractions import Fraction
from unittest.mock import patch

from allworlds.choices import (
    acts_after, best_act, full_worth, idle_things, look_gain, look_rows, look_worth, mean_worths, turning_fillings,
)
from allworlds.looks import look_sums, sums_of_each
from allworlds.nets import Net, counts_of
from allworlds.plain import plain_sums
from allworlds.plans import best_looks, best_plan
from allworlds.reader import read_net, read_news
from allworlds.tables import Table
from allworlds.wholes import in_order, product_of_wholes, short_bottom, sums_by_filling, sums_by_thing, sums_of_pieces
from tests.cases import NO_WORLD, SURE, ErrorCase, chain_net_of
from tests.drawn import draw_lot, draw_net, drawn, plain
from tests.questions import lots_of
from tests.ranking import fillings_in
from tests.test_choices import draw_acts, draw_choice, plain_rows

NET = read_net("""a 2: 1/3 2/3
b 2 of a: 1/4 3/4, 2/5 3/5
c 2 of a b: 1/2 1/2, 1/3 2/3, 1/5 4/5, 1/6 5/6
d 3 of b c: 1/2 1/3 1/6, 1/4 1/4 1/2, 2/3 1/6 1/6, 1/5 2/5 2/5
e 3 of a c d: 1/2 1/3 1/6, 1/4 1/4 1/2, 2/3 1/6 1/6, 1/2 1/3 1/6, 1/4 1/4 1/2, 2/3 1/6 1/6, 1/2 1/3 1/6, 1/4 1/4 1/2, 2/3 1/6 1/6, """
               "1/2 1/3 1/6, 1/4 1/4 1/2, 2/3 1/6 1/6")
ACTS = (Table((0,), (2,), ((3, 1), (-4, 1))), Table((1,), (2,), ((2, 1), (-1, 1))),
        Table((2, 3), (2, 3), ((1, 1), (-2, 1), (3, 1), (0, 1), (2, 1), (-3, 1))),
        Table((0, 4), (2, 3), ((1, 2), (-1, 1), (5, 2), (0, 1), (3, 1), (-3, 1))))
# The ways to the sums: all at once, things left out one after another, and by fractions.
WAYS = ({"MOST_AT_ONCE": 10 ** 6, "MOST_FOR_EACH": 10 ** 6}, {"MOST_AT_ONCE": 0, "MOST_FOR_EACH": 0}, {"MOST_BITS_EACH": 0},
        {"MOST_AT_ONCE": 10 ** 6, "MOST_FOR_EACH": 0}, {"MOST_AT_ONCE": 0, "MOST_FOR_EACH": 10 ** 6})


def on_way(way, told, *values):
    """What a function tells, with the limits of a way."""
    with patch.multiple("allworlds.looks", **way):
        return told(*values)


def primes(many):
    """The first primes above 100,000."""
    found = []
    number = 100001
    while len(found) < many:
        if all(number % divisor for divisor in range(3, 320, 2)):
            found.append(number)
        number += 2
    return found


class TestSmallNet(ErrorCase):
    def test_told(self):
        self.assertEqual(idle_things(NET, (), ACTS), ())
        self.assertEqual(look_gain(NET, (), ACTS, (1, 2)), (125839, 172800))
        self.assertEqual(full_worth(NET, (), ACTS), (11479, 5400))
        for way in WAYS:
            self.assertEqual(on_way(way, idle_things, NET, (), ACTS), ())
            self.assertEqual(on_way(way, look_gain, NET, (), ACTS, (1, 2)), (125839, 172800))
            self.assertEqual(on_way(way, full_worth, NET, (), ACTS), (11479, 5400))

    def test_all_lots(self):
        for text in ("", "c: 1/2 1/3; e: 1 0 1/7", "e is 1; b is 0", "a: 2/7 2/7; d is 2"):
            news = read_news(NET, text)
            rows = plain_rows(NET, news, ACTS, tuple(range(5)))
            for first in range(4):
                self.all_of(news, first, rows)

    def all_of(self, news, first, worlds):
        """Ask all of looks by news for the acts from one on."""
        acts = ACTS[first:]
        fillings = fillings_in(NET, tuple(range(5)))
        gains = {}
        for lot in lots_of(range(5)):
            found = {}
            for world, (share, sums) in zip(fillings, worlds):
                row = found.setdefault(tuple(world[thing] for thing in lot), [Fraction(0)] * 5)
                for at, part in enumerate([share] + sums):
                    row[at] += part
            rows = [(row[0], row[first + 1:]) for _, row in sorted(found.items())]
            before = [sum(sums[at] for _, sums in rows) for at in range(len(acts))]
            best = before.index(max(before))
            worth = sum(max(sums) for _, sums in rows)
            gains[lot] = worth - before[best]
            told = look_rows(NET, news, acts, lot)
            self.assertEqual([(plain(share), [plain(one) for one in sums]) for share, sums in told], rows)
            self.assertEqual(plain(look_gain(NET, news, acts, lot)), gains[lot])
            self.assertEqual(plain(look_worth(NET, news, acts, lot)), worth)
            self.assertEqual(acts_after(NET, news, acts, lot), tuple(
                sums.index(max(sums)) if share else None for share, sums in rows))
            self.assertEqual(turning_fillings(NET, news, acts, lot), tuple(
                filling for filling, (_, sums) in zip(sorted(found), rows) if max(sums) > sums[best]))
        self.assertEqual(idle_things(NET, news, acts), tuple(thing for thing in range(5) if gains[(thing,)] == 0))
        self.assertEqual([plain(one) for one in mean_worths(NET, news, acts)], before)
        self.assertEqual((plain(best_act(NET, news, acts)[0]), best_act(NET, news, acts)[1]), (before[best], best))
        self.assertEqual(plain(full_worth(NET, news, acts)), before[best] + max(gains.values()))


class TestWays(ErrorCase):
    def test_drawn(self):
        for rng in drawn(60, 480):
            net, news, acts = draw_choice(rng)
            lot = draw_lot(rng, len(net.things))
            rows = plain_rows(net, news, acts, lot)
            idle = tuple(thing for thing in range(len(net.things)) if look_gain(net, news, acts, (thing,)) == (0, 1))
            for way in WAYS:
                told = on_way(way, look_rows, net, news, acts, lot)
                self.assertEqual([(plain(share), [plain(one) for one in sums]) for share, sums in told], rows)
                self.assertEqual(on_way(way, idle_things, net, news, acts), idle)
                total, weights, columns = on_way(way, look_sums, net, news, acts, lot)
                self.assertEqual([plain(weight) / plain(total) for weight in weights], [share for share, _ in rows])
                for at, column in enumerate(columns):
                    self.assertEqual([plain(entry) / plain(total) for entry in column], [sums[at] for _, sums in rows])

    def test_plans_drawn(self):
        for rng in drawn(30, 481):
            net, news, acts = draw_choice(rng)
            costs = tuple(rng.choice((None, (0, 1), (1, 9))) for _ in net.things)
            for told in (best_looks, best_plan):
                found = [on_way(way, told, net, news, acts, costs, 1) for way in WAYS]
                self.assertEqual(found, [found[0]] * len(WAYS))

    def test_each_alone(self):
        for rng in drawn(30, 482):
            net, news, acts = draw_choice(rng)
            for way in WAYS:
                each = on_way(way, sums_of_each, net, news, acts)
                self.assertEqual(len(each), len(net.things))
                for thing, columns in enumerate(each):
                    _, _, alone = look_sums(net, news, acts, (thing,))
                    self.assertEqual([len(column) for column in columns], [net.things[thing][1]] * len(acts))
                    # Both are told times some number above 0.
                    first = [plain(entry) for column in columns for entry in column]
                    other = [plain(entry) for column in alone for entry in column]
                    self.assertEqual([one * sum(map(abs, other)) for one in first], [one * sum(map(abs, first)) for one in other])

    def test_larger_drawn(self):
        for rng in drawn(6, 483):
            net = draw_net(rng, 9, zeros=False)
            news = ((4, ((1, 3), (0, 1), (2, 7))[:net.things[4][1]]),)
            acts = draw_acts(rng, net)
            lot = tuple(sorted(rng.sample(range(9), 2)))
            told = [on_way(way, look_rows, net, news, acts, lot) for way in WAYS]
            self.assertEqual(told, [told[0]] * len(WAYS))
            self.assertEqual(told[0], look_rows(net, news, acts, lot))
            idle = [on_way(way, idle_things, net, news, acts) for way in WAYS]
            self.assertEqual(idle, [idle_things(net, news, acts)] * len(WAYS))
            total = sum(plain(weight) for weight in plain_sums(net, news, ()))
            self.assertEqual([plain(share) * total for share, _ in told[0]], [plain(one) for one in plain_sums(net, news, lot)])

    def test_barred(self):
        for way in WAYS:
            for told, values in ((look_sums, (ACTS[:1], (1,))), (sums_of_each, (ACTS[:1],)), (idle_things, (ACTS[:1],)),
                                 (mean_worths, (ACTS[:1],)), (look_rows, (ACTS[:1], ())), (full_worth, (ACTS[:1],))):
                with patch.multiple("allworlds.looks", **way):
                    self.refused("barred", told, SURE, NO_WORLD, *values)

    def test_long_bottoms(self):
        # Each row has another bottom, together too long a one.
        found = primes(256)
        wide = [("abcd"[at], 4, (), (((1, 4),) * 4,)) for at in range(4)]
        net = Net(tuple(wide) + (("e", 2, (0, 1, 2, 3), tuple(((1, prime), (prime - 1, prime)) for prime in found)),))
        act = Table((0, 4), (4, 2), tuple((number, 3) for number in (1, 2, 4, 5, 7, -8, 10, 11)))
        rest = Table((), (), ((2, 1),))
        self.assertIsNone(short_bottom([(1, prime) for prime in found], 2048))
        sums = [sum(Fraction(1, prime) for prime in found[at * 64:at * 64 + 64]) / 256 for at in range(4)]
        shares = [share for one in sums for share in (one, Fraction(1, 4) - one)]
        worth = sum(share * plain(entry) for share, entry in zip(shares, act.entries))
        self.assertEqual(tuple(plain(one) for one in mean_worths(net, (), (act, rest))), (worth, 2))
        told = look_rows(net, (), (act, rest), (0, 4))
        self.assertEqual([plain(share) for share, _ in told], shares)
        self.assertEqual([plain(sums[0]) for _, sums in told], [share * plain(entry) for share, entry in zip(shares, act.entries)])
        # Case 1 of the last thing is so much likelier that a look at it alone turns nothing.
        self.assertEqual(idle_things(net, (), (act, rest)), (1, 2, 3, 4))
        self.assertEqual(turning_fillings(net, (), (act, rest), (0,)), ((3,),))
        # Worths over many bottoms.
        table = Table((0, 1, 2, 3), (4,) * 4, tuple((1, prime) for prime in found))
        self.assertEqual(plain(mean_worths(net, (), (table,))[0]), sum(Fraction(1, prime) for prime in found) / 256)
        self.assertEqual(plain(full_worth(net, (), (table, Table((), (), ((1, found[99]),))))),
                         sum(Fraction(1, min(prime, found[99])) for prime in found) / 256)

    def test_many_worlds(self):
        # Only a few things of many matter.
        net = chain_net_of(24)
        for thing in (0, 3, 11, 23):
            act = Table((thing,), (2,), ((1, 1), (0, 1)))
            if thing < 12:
                self.assertEqual(mean_worths(net, (), (act,))[0], plain_sums(chain_net_of(thing + 1), (), (thing,))[0])
            other = Table((thing,), (2,), ((0, 1), (1, 1)))
            self.assertEqual(look_worth(net, (), (act, other), (thing,)), (1, 1))
            self.assertNotIn(thing, idle_things(net, (), (act, other)))


class TestWholes(unittest.TestCase):
    def test_short_bottom(self):
        self.assertEqual(short_bottom([(1, 4), (5, 6), (1, 4)], 4), 12)
        self.assertIsNone(short_bottom([(1, 4), (5, 6), (1, 4)], 3))
        self.assertEqual(short_bottom([], 1), 1)
        self.assertEqual(short_bottom([(3, 1)], 1), 1)
        self.assertIsNone(short_bottom([(3, 1)], 0))

    def test_pieces(self):
        self.assertEqual(sums_of_pieces([1, 2, 3, 4, 5, 6], 3), [3, 7, 11])
        self.assertEqual(sums_of_pieces([1, 2, 3], 1), [6])
        self.assertEqual(sums_of_pieces([1, 2, 3], 3), [1, 2, 3])

    def test_drawn(self):
        for rng in drawn(40, 484):
            many = rng.randint(1, 5)
            counts = tuple(rng.randint(2, 3) for _ in range(many))
            tables = []
            for _ in range(rng.randint(1, 5)):
                order = rng.sample(range(many), rng.randint(0, min(3, many)))
                size = 1
                for thing in order:
                    size *= counts[thing]
                tables.append((tuple(order), [rng.randint(-3, 5) for _ in range(size)]))
            order, entries = product_of_wholes(counts, tables)
            self.assertEqual(sorted(order), sorted({thing for own, _ in tables for thing in own}))
            ascending = tuple(sorted(order))
            lot = tuple(thing for thing in range(many) if rng.random() < 0.5)
            sums = {}
            each = {thing: [0] * counts[thing] for thing in order}
            net = Net(tuple((name, count, (), (((1, count),) * count,)) for name, count in zip("abcde", counts)))
            for filling, entry in zip(fillings_in(net, ascending), in_order(counts, ascending, (order, entries))):
                cases = dict(zip(ascending, filling))
                product = 1
                for own, numbers in tables:
                    number = 0
                    for thing in own:
                        number = number * counts[thing] + cases[thing]
                    product *= numbers[number]
                self.assertEqual(entry, product)
                key = tuple(cases.get(thing) for thing in lot)
                sums[key] = sums.get(key, 0) + entry
                for thing, case in cases.items():
                    each[thing][case] += entry
            told = sums_by_filling(counts, tables, lot)
            self.assertEqual(told, [
                sums[tuple(case if thing in order else None for thing, case in zip(lot, filling))]
                for filling in fillings_in(net, lot)])
            self.assertEqual(sums_by_thing(counts, order, entries), [each[thing] for thing in order])
            self.assertEqual(counts_of(net), counts)


if __name__ == "__main__":
    unittest.main()
