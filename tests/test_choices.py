"""Points 80, 81 and 82: acts, looks, and what a look can turn."""

import unittest
from fractions import Fraction

from allworlds.choices import (
    acts_after, best_act, check_acts, full_worth, idle_things, look_gain, look_rows, look_worth, mean_worth, mean_worths,
    turning_fillings,
)
from allworlds.errors import InvalidTable
from allworlds.nets import counts_of
from allworlds.plain import plain_total
from allworlds.reader import read_net
from allworlds.tables import Table
from tests.cases import FULL, NO_WORLD, SURE, ErrorCase, chain_net_of, free_net, wide_net
from tests.drawn import (
    NO_TUPLES, Odd, all_worlds, draw_lot, draw_net, draw_news, drawn, nest, pair_of, plain, plain_weight,
)
from tests.questions import lots_of
from tests.ranking import fillings_in

NET = read_net("batch 2: 3/4 1/4\nprobe 2 of batch: 9/10 1/10, 1/5 4/5")
ACTS = (Table((), (), ((1, 1),)), Table((0,), (2,), ((3, 1), (-4, 1))))


def draw_act(rng, net):
    """A table of some things of a net, with entries of any sign."""
    lot = draw_lot(rng, len(net.things))[:3]
    counts = tuple(counts_of(net)[thing] for thing in lot)
    entries = [pair_of(Fraction(rng.randint(-4, 6), rng.randint(1, 3))) for _ in fillings_in(net, lot)]
    return Table(lot, counts, tuple(entries))


def draw_acts(rng, net):
    """Some acts, perhaps with equal ones."""
    acts = [draw_act(rng, net) for _ in range(rng.randint(1, 3))]
    return tuple(rng.choice(acts) for _ in range(rng.randint(1, 4)))


def draw_choice(rng):
    """A net, news that leave a world, and acts."""
    while True:
        net = draw_net(rng, rng.randint(1, 4))
        news = draw_news(rng, net)
        if plain_total(net, news)[0]:
            return net, news, draw_acts(rng, net)


def worth_in(act, world):
    """The worth of an act in a world."""
    number = 0
    for thing, count in zip(act.things, act.counts):
        number = number * count + world[thing]
    return plain(act.entries[number])


def plain_rows(net, news, acts, lot):
    """For each filling of a lot its share and the sums of all acts."""
    total = plain(plain_total(net, news))
    found = {filling: [Fraction(0)] * (len(acts) + 1) for filling in fillings_in(net, lot)}
    for world in all_worlds(net):
        row = found[tuple(world[thing] for thing in lot)]
        share = plain_weight(net, news, world) / total
        row[0] += share
        for at, act in enumerate(acts):
            row[at + 1] += share * worth_in(act, world)
    return [(row[0], row[1:]) for _, row in sorted(found.items())]


class TestActs(ErrorCase):
    def test_check(self):
        self.assertIsNone(check_acts(net=NET, value=ACTS))
        self.assertIsNone(check_acts(NET, (Table((0, 1), (2, 2), ((1, 1), (-7, 3), (0, 1), (2, 1))),)))
        for value in NO_TUPLES + ((), ACTS[0]):
            self.raised(InvalidTable, -1, check_acts, NET, value)
        good = ACTS[1]
        wrong = (Table([0], (2,), good.entries), Table((0,), [2], good.entries), Table((0,), (2,), list(good.entries)),
                 Table((2,), (2,), good.entries), Table((0,), (3,), good.entries + ((1, 1),)), Table((0,), (1,), ((1, 1),)),
                 Table((0,), (2,), ((3, 1),)), Table((0,), (2,), ((3, 1), (2, 2))), Table((1, 0), (2, 2), good.entries * 2),
                 Table((False,), (2,), good.entries), Table((-1,), (2,), good.entries), Table((), (), ()), Table(Odd(), 1, 2))
        for value in NO_TUPLES + wrong + ((), nest(100000), Table, NET):
            for place in range(3):
                self.raised(InvalidTable, place, check_acts, NET, (ACTS * 2)[:place] + (value,) + (value,))

    def test_examples(self):
        self.assertEqual(best_act(net=NET, news=(), acts=ACTS), ((5, 4), 1))
        self.assertEqual(mean_worths(net=NET, news=(), acts=ACTS), ((1, 1), (5, 4)))
        self.assertEqual(mean_worth(net=NET, news=(), act=ACTS[1]), (5, 4))
        self.assertEqual(look_gain(net=NET, news=(), acts=ACTS, lot=(1,)), (17, 20))
        self.assertEqual(full_worth(net=NET, news=(), acts=ACTS), (5, 2))
        self.assertEqual(look_rows(net=NET, news=(), acts=ACTS, lot=(1,)), (
            ((29, 40), ((29, 40), (73, 40))), ((11, 40), ((11, 40), (-23, 40)))))
        self.assertEqual(acts_after(net=NET, news=(), acts=ACTS, lot=(1,)), (1, 0))
        self.assertEqual(look_worth(net=NET, news=(), acts=ACTS, lot=(1,)), (21, 10))
        self.assertEqual(turning_fillings(net=NET, news=(), acts=ACTS, lot=(1,)), ((1,),))
        self.assertEqual(idle_things(net=NET, news=(), acts=ACTS), ())
        self.assertEqual(idle_things(NET, (), ACTS[:1]), (0, 1))

    def test_equal_acts(self):
        acts = (Table((), (), ((0, 1),)), Table((), (), ((2, 1),)), Table((1,), (2,), ((2, 1), (2, 1))))
        self.assertEqual(best_act(NET, (), acts), ((2, 1), 1))
        self.assertEqual(acts_after(NET, (), acts, (0,)), (1, 1))
        self.assertEqual(turning_fillings(NET, (), acts, (0, 1)), ())
        self.assertEqual(acts_after(NET, (), acts, ()), (1,))
        self.assertEqual(acts_after(SURE, (), (Table((), (), ((-1, 1),)),), (0,)), (0, None))

    def test_drawn(self):
        for rng in drawn(100, 370):
            net, news, acts = draw_choice(rng)
            rows = plain_rows(net, news, acts, ())
            self.assertEqual([plain(worth) for worth in mean_worths(net, news, acts)], rows[0][1])
            best, number = best_act(net, news, acts)
            self.assertEqual((plain(best), number), (max(rows[0][1]), rows[0][1].index(max(rows[0][1]))))
            for act, worth in zip(acts, rows[0][1]):
                self.assertEqual(plain(mean_worth(net, news, act)), worth)
            self.looks(net, news, acts, number, draw_lot(rng, len(net.things)))

    def looks(self, net, news, acts, number, lot):
        """Ask all of a look at a lot."""
        rows = plain_rows(net, news, acts, lot)
        told = look_rows(net, news, acts, lot)
        self.assertEqual([(plain(share), [plain(one) for one in sums]) for share, sums in told], rows)
        self.assertEqual([type(row) for row in told] + [type(told)], [tuple] * (len(told) + 1))
        after = tuple(sums.index(max(sums)) if share else None for share, sums in rows)
        self.assertEqual(acts_after(net, news, acts, lot), after)
        worth = sum(max(sums) for _, sums in rows)
        self.assertEqual(plain(look_worth(net, news, acts, lot)), worth)
        gain = plain(look_gain(net, news, acts, lot))
        self.assertEqual(gain, worth - plain(best_act(net, news, acts)[0]))
        turning = tuple(filling for filling, (_, sums) in zip(fillings_in(net, lot), rows) if max(sums) > sums[number])
        self.assertEqual(turning_fillings(net, news, acts, lot), turning)
        self.assertIs(gain > 0, bool(turning))

    def test_gains_drawn(self):
        for rng in drawn(30, 371):
            net, news, acts = draw_choice(rng)
            lots = lots_of(range(len(net.things)))
            gains = {lot: plain(look_gain(net, news, acts, lot)) for lot in lots}
            full = plain(full_worth(net, news, acts))
            best = plain(best_act(net, news, acts)[0])
            things = tuple(sorted({thing for act in acts for thing in act.things}))
            self.assertEqual(full, best + gains[things])
            for lot, gain in gains.items():
                self.assertGreaterEqual(gain, 0)
                self.assertLessEqual(best + gain, full)
                for other in lots:
                    if set(other) <= set(lot):
                        self.assertLessEqual(gains[other], gain)
            idle = tuple(thing for thing in range(len(net.things)) if gains[(thing,)] == 0)
            self.assertEqual(idle_things(net, news, acts), idle)

    def test_errors(self):
        acts = (Table((), (), ((1, 1),)),)
        for told in (mean_worths, best_act, idle_things, full_worth):
            self.refused("barred", told, SURE, NO_WORLD, acts)
        self.refused("barred", mean_worth, SURE, NO_WORLD, acts[0])
        looking = (look_rows, acts_after, look_worth, look_gain, turning_fillings)
        for told in looking:
            self.refused("barred", told, SURE, NO_WORLD, acts, ())
        net = wide_net(15)
        barred = ((0, ((1, 2), (1, 2))), (1, ((1, 1), (0, 1))))
        sure = type(net)((("a", 2, (), (((1, 1), (0, 1)),)),) + net.things[1:])
        for told in looking:
            self.refused("size", told, net, barred, acts, tuple(range(15)))
            self.refused("size", told, sure, ((0, ((0, 1), (1, 1))),), acts, tuple(range(15)))
        self.assertEqual(look_gain(net, barred, acts, tuple(range(14))), (0, 1))
        ten = tuple(Table(lot, (2,) * 8, ((0, 1),) * 2 ** 8) for lot in (tuple(range(8)), tuple(range(7, 15))))
        self.refused("size", full_worth, net, (), ten)
        self.refused("size", full_worth, sure, ((0, ((0, 1), (1, 1))),), ten)
        self.assertEqual(full_worth(net, (), ten[:1]), (0, 1))

    def test_just_so_many(self):
        acts = (Table((), (), ((1, 1),)),)
        self.assertEqual(len(look_rows(free_net(FULL), (), acts, tuple(range(9)))), 20000)
        self.refused("size", look_rows, free_net(FULL[:-1] + (3,)), (), acts, tuple(range(9)))

    def test_long(self):
        net = chain_net_of(24)
        acts = (Table((0, 23), (2, 2), ((3, 1), (0, 1), (0, 1), (3, 1))), Table((12,), (2,), ((1, 1), (2, 1))))
        self.assertEqual(plain(full_worth(net, (), acts)), plain(best_act(net, (), acts)[0]) + plain(
            look_gain(net, (), acts, (0, 12, 23))))


if __name__ == "__main__":
    unittest.main()
