"""Points 75 and 76: spots, moved entries and lines."""

import unittest
from fractions import Fraction

from allworlds.errors import InvalidNumber
from allworlds.moved import (
    beside_table, entry_at_spot, is_spot, lines_of_thing, moved_net, moved_row, moved_share, spots_in, spots_of, weight_line,
)
from allworlds.nets import Net, counts_of, family_of
from allworlds.plain import plain_share, plain_total
from tests.cases import ErrorCase, HALF, chain_net_of, wide_net
from tests.drawn import (
    NO_INTEGERS, NO_TUPLES, all_worlds, draw_claim, draw_net, draw_news, draw_row, drawn, nest, pair_of, plain, plain_holds,
)
from tests.ranking import fillings_in
from tests.test_readings import weight_without

NET = Net((("a", 2, (), (((1, 4), (3, 4)),)), ("b", 2, (0,), (HALF, ((1, 3), (2, 3))))))
NEWS = ((1, ((1, 1), (0, 1))),)
ENTRIES = ((0, 1), (1, 1), (1, 2), (1, 3), (99, 100))


def claim_weight(net, news, claim):
    """The sum of the weights of the worlds in which a claim holds, or of all."""
    return sum(weight_without(net, news, world, None, False) for world in all_worlds(net)
               if claim is None or plain_holds(claim, world))


def moved_by_words(row, case, x):
    """A row in which the entry of a case is moved, in Python's fractions."""
    row = [plain(entry) for entry in row]
    rest = sum(entry for at, entry in enumerate(row) if at != case)
    if rest:
        factor = (1 - x) / rest
        return [x if at == case else entry * factor for at, entry in enumerate(row)]
    return [x if at == case else (1 - x) / (len(row) - 1) for at in range(len(row))]


class TestSpots(ErrorCase):
    def test_is_spot(self):
        self.assertEqual(spots_of(net=NET), ((0, (), 0), (0, (), 1), (1, (0,), 0), (1, (0,), 1), (1, (1,), 0), (1, (1,), 1)))
        self.assertEqual(spots_in(net=NET, thing=1), spots_of(NET)[2:])
        for spot in spots_of(NET):
            self.assertIs(is_spot(net=NET, value=spot), True)
        for value in NO_TUPLES + ((), (1,), (1, (0,)), (1, (0,), 0, 0), (1, (2,), 0), (1, (0,), 2), (1, (), 0), (1, (0, 0), 0),
                                  (0, (0,), 0), (2, (), 0), (-1, (), 0), (1, (0,), -1), (1, (-1,), 0), (1, [0], 0), [1, (0,), 0],
                                  nest(100000)):
            self.assertIs(is_spot(NET, value), False)
        for value in NO_INTEGERS + (10 ** 400,):
            for spot in ((value, (0,), 0), (1, (value,), 0), (1, (0,), value)):
                self.assertIs(is_spot(NET, spot), False)
        for value in NO_TUPLES:
            self.assertIs(is_spot(NET, (0, value, 0)), False)

    def test_drawn(self):
        for rng in drawn(60, 360):
            net = draw_net(rng)
            due = []
            for thing, (_, count, parents, rows) in enumerate(net.things):
                fillings = fillings_in(net, parents)
                own = [(thing, filling, case) for filling in fillings for case in range(count)]
                self.assertEqual(spots_in(net, thing), tuple(own))
                for spot in own:
                    self.assertIs(is_spot(net, spot), True)
                    self.assertEqual(entry_at_spot(net=net, spot=spot), rows[fillings.index(spot[1])][spot[2]])
                due += own
            self.assertEqual(spots_of(net), tuple(sorted(due)))


class TestRows(ErrorCase):
    def test_examples(self):
        self.assertEqual(moved_row(row=((1, 2), (1, 3), (1, 6)), case=0, x=(1, 4)), ((1, 4), (1, 2), (1, 4)))
        self.assertEqual(moved_row(((1, 1), (0, 1), (0, 1)), 0, (1, 2)), ((1, 2), (1, 4), (1, 4)))
        self.assertEqual(moved_row(((1, 1), (0, 1), (0, 1)), 1, (1, 2)), ((1, 2), (1, 2), (0, 1)))
        self.assertEqual(moved_row(((1, 2), (0, 1), (1, 2)), 0, (1, 1)), ((1, 1), (0, 1), (0, 1)))
        self.assertEqual(moved_row(((0, 1), (1, 1), (0, 1)), 1, (1, 1)), ((0, 1), (1, 1), (0, 1)))
        self.assertEqual(moved_row(HALF, 1, (0, 1)), ((1, 1), (0, 1)))

    def test_drawn(self):
        for rng in drawn(200, 361):
            row = draw_row(rng, rng.randint(2, 5))
            case, x = rng.randrange(len(row)), rng.choice(ENTRIES)
            moved = moved_row(row, case, x)
            self.assertEqual([plain(entry) for entry in moved], moved_by_words(row, case, plain(x)))
            self.assertEqual(sum(plain(entry) for entry in moved), 1)

    def test_nets(self):
        for rng in drawn(80, 362):
            net = draw_net(rng)
            spot = rng.choice(spots_of(net))
            thing, filling, case = spot
            x = rng.choice(ENTRIES)
            moved = moved_net(net=net, spot=spot, x=x)
            self.assertEqual(entry_at_spot(moved, spot), x)
            number = fillings_in(net, net.things[thing][2]).index(filling)
            rows = list(net.things[thing][3])
            rows[number] = tuple(pair_of(Fraction(one)) for one in moved_by_words(rows[number], case, plain(x)))
            due = net.things[:thing] + (net.things[thing][:3] + (tuple(rows),),) + net.things[thing + 1:]
            self.assertEqual(moved.things, due)
            if x != (1, 1):
                self.assertEqual(moved_net(moved, spot, entry_at_spot(net, spot)), net)

    def test_errors(self):
        for value in NO_TUPLES + ((), (1,), (1, 2, 3), (2, 4), (3, 2), (-1, 2), (1, -2), (True, 2), (1.0, 2), (0, 2), nest(100000)):
            self.raised(InvalidNumber, "entry", moved_net, NET, (0, (), 0), value)


class TestLines(ErrorCase):
    def test_examples(self):
        self.assertEqual(moved_share(NET, NEWS, ("is", 0, (0,)), (0, (), 0)), ((0, 1), (1, 2), (1, 3), (1, 6)))
        self.assertEqual(weight_line(net=NET, news=NEWS, claim=None, spot=(0, (), 0)), ((1, 3), (1, 6)))
        self.assertEqual(beside_table(net=NET, news=NEWS, claim=None, thing=0).entries, ((1, 2), (1, 3)))
        self.assertEqual(beside_table(NET, NEWS, ("is", 1, (1,)), 1).entries, ((0, 1),) * 4)

    def test_drawn(self):
        for rng in drawn(80, 363):
            net = draw_net(rng, rng.randint(1, 4))
            news = draw_news(rng, net)
            claim = draw_claim(rng, net)
            thing = rng.randrange(len(net.things))
            family = family_of(net, thing)
            for told in (None, claim):
                table = beside_table(net, news, told, thing)
                due = {}
                for world in all_worlds(net):
                    key = tuple(world[at] for at in family)
                    holds = told is None or plain_holds(told, world)
                    due[key] = due.get(key, 0) + (weight_without(net, news, world, thing, False) if holds else 0)
                self.assertEqual((table.things, table.counts), (family, tuple(counts_of(net)[at] for at in family)))
                self.assertEqual([plain(entry) for entry in table.entries], [due[key] for key in sorted(due)])
            lines = lines_of_thing(net=net, news=news, claim=claim, thing=thing)
            self.assertEqual(tuple(spot for spot, _ in lines), spots_in(net, thing))
            for spot, line in lines:
                self.assertEqual(moved_share(net=net, news=news, claim=claim, spot=spot), line)
                self.assertEqual(line, weight_line(net, news, claim, spot) + weight_line(net, news, None, spot))
            self.along(net, news, claim, *rng.choice(lines))

    def along(self, net, news, claim, spot, line):
        """Ask that the share goes along the line."""
        a, b, c, d = [plain(item) for item in line]
        for x in ENTRIES:
            moved = moved_net(net, spot, x)
            self.assertEqual(a + b * plain(x), claim_weight(moved, news, claim))
            whole = c + d * plain(x)
            self.assertEqual(whole, plain(plain_total(moved, news)))
            if whole:
                self.assertEqual((a + b * plain(x)) / whole, plain(plain_share(moved, news, claim)))

    def test_size(self):
        net = wide_net(15)
        many = tuple(("is", thing, (1,)) for thing in range(15))
        spot = (3, (), 0)
        # Parts that "and" joins are tables of their own; an "or" is told by the other worlds.
        least = (1, 2 ** 14)
        for claim, line in ((("and",) + many, (least, (-1, 2 ** 14))), (("or",) + many, ((1, 1), (-1, 2 ** 14))),
                            (("not", ("or",) + many), ((0, 1), least)), (("not", ("and",) + many), ((2 ** 14 - 1, 2 ** 14), least)),
                            (("and", ("or",) + many[:8], ("or",) + many[7:]), ((255, 256), (-127, 2 ** 14)))):
            self.assertEqual(weight_line(net, (), claim, spot), line)
            self.assertEqual(moved_share(net, (), claim, spot), line + ((1, 1), (0, 1)))
        wrong = ("and", ("or", ("and",) + many[:9], ("and",) + many[6:]), ("is", 0, (1,)))
        barred = ((0, ((1, 1), (0, 1))),)
        for told in (lambda: beside_table(net, barred, wrong, 3), lambda: weight_line(net, barred, wrong, spot),
                     lambda: moved_share(net, barred, wrong, spot), lambda: lines_of_thing(net, barred, wrong, 3)):
            self.refused("size", told)

    def test_long(self):
        net = chain_net_of(24)
        line = moved_share(net, ((0, ((1, 1), (0, 1))),), ("is", 23, (0,)), (12, (0,), 1))
        self.assertEqual(line[2:], ((2, 5), (0, 1)))


if __name__ == "__main__":
    unittest.main()
