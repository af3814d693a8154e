"""Points 23 and 24: tables."""

import unittest
from fractions import Fraction
from itertools import product

from allworlds.errors import InvalidTable, Refused
from allworlds.nets import Net, finding
from allworlds.numbers import product_of_all
from allworlds.tables import (
    Table, check_table, claim_table, counts_in, entry_at, entry_in, is_table, one_table, table_fault, table_of,
    table_of_news,
)
from allworlds.worlds import news_weight
from tests.drawn import (
    NO_INTEGERS, NO_TUPLES, Odd, all_worlds, draw_claim, draw_lot, draw_net, draw_news, drawn, nest, pair_of, plain,
    plain_holds, plain_row, plain_weight,
)

HALF = ((1, 2), (1, 2))
ROWS = (((1, 5), (4, 5)), ((1, 1), (0, 1)))
NET = Net((("a", 2, (), (HALF,)), ("b", 3, (), (((1, 3),) * 3,)), ("c", 2, (0, 1), ROWS * 3)))


def draw_table(rng, things=5, counts=None, low=-3):
    """A table with small entries, of which some are below 0 if low is."""
    counts = counts or (2, 3, 2, 2, 3)
    lot = draw_lot(rng, things)
    own = tuple(counts[thing] for thing in lot)
    many = 1
    for count in own:
        many *= count
    return Table(lot, own, tuple(pair_of(Fraction(rng.randint(low, 4), rng.randint(1, 3))) for _ in range(many)))


def entries_by_filling(table):
    """The entries of a table as Python's fractions, by filling."""
    fillings = product(*[range(count) for count in table.counts])
    return {filling: plain(entry) for filling, entry in zip(fillings, table.entries, strict=True)}


def value_in(table, cases):
    """The entry of a table for some cases by thing."""
    return entries_by_filling(table)[tuple(cases[thing] for thing in table.things)]


class TestTables(unittest.TestCase):
    def fault(self, word, value):
        self.assertEqual(table_fault(value), word)
        self.assertIs(is_table(value), word is None)
        if word is None:
            self.assertIsNone(check_table(value))
        else:
            with self.assertRaises(InvalidTable) as caught:
                check_table(value)
            self.assertEqual(caught.exception.at, word)

    def test_attributes(self):
        table = Table(things=(0, 4), counts=(1, 2), entries=HALF)
        self.assertEqual(vars(table), {"things": (0, 4), "counts": (1, 2), "entries": HALF})
        odd = [1]
        self.assertIs(Table(odd, None, "x").things, odd)

    def test_equal(self):
        table = Table((0,), (2,), HALF)
        self.assertTrue(table == Table((0,), (2,), ((1, 2), (1, 2))))
        for other in (Table((1,), (2,), HALF), Table((0,), (1,), HALF), Table((0,), (2,), ((1, 2), (1, 3))), (0,), None,
                      ((0,), (2,), HALF), 0, Table((), (), ())):
            self.assertFalse(table == other)
            self.assertTrue(table != other)

    def test_right(self):
        for table in (one_table(), Table((), (), ((-7, 3),)), Table((3,), (1,), ((0, 1),)), Table((0, 9), (2, 1), HALF),
                      Table((10 ** 30,), (2,), ((-1, 2), (5, 1)))):
            self.fault(None, table)

    def test_kind(self):
        for value in NO_TUPLES + ((), ((0,), (2,), HALF), nest(100000), NET):
            self.fault("kind", value)

    def test_things(self):
        for value in NO_TUPLES + ((1, 0), (0, 0), (-1,), (0, 1, 1), nest(100000), ((0,),)):
            self.fault("things", Table(value, None, None))
        for item in NO_INTEGERS:
            self.fault("things", Table((item,), (2,), HALF))
            self.fault("things", Table((0, item), (1, 2), HALF))

    def test_counts(self):
        for value in NO_TUPLES + ((), (2, 2), (0,), (-1,), nest(100000), [2]):
            self.fault("counts", Table((0,), value, None))
        for item in NO_INTEGERS:
            self.fault("counts", Table((0,), (item,), HALF))
            self.fault("counts", Table((0, 1), (2, item), HALF))

    def test_entries(self):
        for value in NO_TUPLES + ((), ((1, 2),), HALF * 2, list(HALF), nest(100000), ((1, 2), (2, 4)), ((1, 2), (1, 0)),
                                  ((1, 2), (1, -2)), ((1, 2), [1, 2]), ((1, 2), 1), ((1, 2), (True, 1)), ((1, 2), (Odd(), 1)),
                                  ((1, 2), nest(100000)), ((1, 2), (0, 2)), ((1, 2), (1, 2, 3))):
            self.fault("entries", Table((0,), (2,), value))
        self.fault("entries", Table((), (), ()))
        self.fault("entries", Table((0, 1), (10 ** 200, 10 ** 200), HALF))

    def test_first_wrong(self):
        self.fault("things", Table((1, 0), (0,), ()))
        self.fault("counts", Table((0, 1), (0,), ()))

    def test_entry(self):
        table = Table((1, 4), (2, 3), tuple((k, 1) for k in range(6)))
        self.assertEqual([entry_at(table, (a, b)) for a in range(2) for b in range(3)], list(table.entries))
        self.assertEqual(entry_in(table, (9, 1, 9, 9, 2)), (5, 1))
        self.assertEqual(entry_at(table=one_table(), filling=()), (1, 1))
        self.assertEqual(entry_in(table=one_table(), world=(1, 0)), (1, 1))
        for rng in drawn(40, 60):
            table = draw_table(rng)
            told = entries_by_filling(table)
            for world in product(range(2), range(3), range(2), range(2), range(3)):
                filling = tuple(world[thing] for thing in table.things)
                self.assertEqual(plain(entry_in(table, world)), told[filling])
                self.assertEqual(plain(entry_at(table, filling)), told[filling])


class TestOfNets(unittest.TestCase):
    def test_simple(self):
        self.assertEqual(one_table(), Table((), (), ((1, 1),)))
        self.assertEqual(counts_in(NET, (2, 1, 1)), (2, 3, 3))
        self.assertEqual(counts_in(net=NET, things=()), ())
        self.assertEqual(table_of(NET, 1), Table((1,), (3,), ((1, 3),) * 3))
        self.assertEqual(table_of(net=NET, thing=2), Table((0, 1, 2), (2, 3, 2), (ROWS[0] + ROWS[1]) * 3))
        self.assertEqual(table_of_news(NET, (), 1), Table((1,), (3,), ((1, 1),) * 3))
        self.assertEqual(table_of_news(net=NET, news=(finding(NET, 0, 1),), thing=0), Table((0,), (2,), ((0, 1), (1, 1))))

    def test_of_thing(self):
        for rng in drawn(40, 61):
            net = draw_net(rng)
            news = draw_news(rng, net)
            for thing in range(len(net.things)):
                table = table_of(net, thing)
                self.assertTrue(is_table(table))
                self.assertEqual(table.things, tuple(sorted(net.things[thing][2] + (thing,))))
                self.assertEqual(table.counts, tuple(net.things[at][1] for at in table.things))
                for world in all_worlds(net):
                    self.assertEqual(entry_in(table, world), plain_row(net, thing, world)[world[thing]])
                told = dict(news).get(thing, ((1, 1),) * net.things[thing][1])
                self.assertEqual(table_of_news(net, news, thing), Table((thing,), (net.things[thing][1],), told))

    def test_weight_is_product(self):
        for rng in drawn(30, 62):
            net = draw_net(rng)
            news = draw_news(rng, net)
            things = range(len(net.things))
            tables = [table_of(net, thing) for thing in things] + [table_of_news(net, news, thing) for thing in things]
            for world in all_worlds(net):
                weight = product_of_all([entry_in(table, world) for table in tables])
                self.assertEqual(plain(weight), plain_weight(net, news, world))
                self.assertEqual(weight, news_weight(net, news, world))

    def test_claim(self):
        for rng in drawn(80, 63):
            net = draw_net(rng)
            claim = draw_claim(rng, net)
            table = claim_table(net, claim)
            self.assertTrue(is_table(table))
            self.assertEqual(table.counts, tuple(net.things[at][1] for at in table.things))
            for world in all_worlds(net):
                self.assertEqual(entry_in(table, world), (1, 1) if plain_holds(claim, world) else (0, 1))
        self.assertEqual(claim_table(NET, ("or", ("is", 2, ()), ("not", ("is", 0, (1,))))),
                         Table((0, 2), (2, 2), ((1, 1), (1, 1), (0, 1), (0, 1))))
        self.assertEqual(claim_table(net=NET, claim=("is", 1, (0, 2))), Table((1,), (3,), ((1, 1), (0, 1), (1, 1))))

    def test_claim_size(self):
        counts = (5, 5, 5, 5, 2, 2, 2, 2, 2)
        things = []
        for at, count in enumerate(counts + (2, 2)):
            things.append(("abcdefghijk"[at], count, (), (((1, 1),) + ((0, 1),) * (count - 1),)))
        net = Net(tuple(things))
        small = ("and",) + tuple(("is", at, (0,)) for at in range(9))
        table = claim_table(net, small)
        self.assertEqual((len(table.entries), table.entries[0], sum(top for top, _ in table.entries)), (20000, (1, 1), 1))
        with self.assertRaises(Refused) as caught:
            claim_table(net, small + (("is", 9, ()),))
        self.assertEqual(caught.exception.word, "size")


if __name__ == "__main__":
    unittest.main()
