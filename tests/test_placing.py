"""Of chapter 14 what is said ahead of point 69, and points 70 and 71: messages along mixed sequences."""

import unittest

from allworlds.nets import Net
from allworlds.placing import best_messages, comes_before, is_mixed_sequence, line_of, mixed_sequence
from tests.cases import HALF, NO_WORLD, SURE, chain_net_of
from tests.drawn import NO_INTEGERS, NO_TUPLES, draw_net, draw_news, drawn, nest, plain
from tests.questions import lots_of
from tests.ranking import as_told, draw_any_lot, draw_mixed, fillings_in, plain_messages

NET = Net((("a", 2, (), (((2, 5), (3, 5)),)), ("b", 2, (0,), (((1, 1), (0, 1)), HALF))))


class TestOrder(unittest.TestCase):
    def test_comes_before(self):
        ranked = [((3, 2), (1, 1)), ((1, 1), (0, 5)), ((2, 3), (0, 1)), ((2, 3), (1, 0)), ((1, 2), (0, 0)), None]
        for place, one in enumerate(ranked):
            for behind, other in enumerate(ranked):
                self.assertIs(comes_before(one, other), place < behind)
        self.assertIs(comes_before(one=None, other=None), False)
        parts = [((1, 3), ((0, 0), (4, 1))), ((1, 3), ((0, 1), (4, 0))), ((1, 4), ((0, 0), (4, 0)))]
        for place, one in enumerate(parts):
            for behind, other in enumerate(parts):
                self.assertIs(comes_before(one, other), place < behind)
        self.assertIs(comes_before(((1, 3), ()), ((2, 6 - 1), ())), False)


class TestSequences(unittest.TestCase):
    def test_is_mixed(self):
        net = Net(SURE.things)
        for value in ((0, 1, 2), (1, 0, 2), (0, 2, 1), (2, 0, 1), (1, 2, 0), (2, 1, 0)):
            self.assertTrue(is_mixed_sequence(net=net, lot=(), value=value))
            self.assertTrue(is_mixed_sequence(net, (0, 1, 2), value))
            self.assertIs(is_mixed_sequence(net, (0, 2), value), value[0] == 1)
            self.assertIs(is_mixed_sequence(net, (1,), value), value[2] == 1)
        for value in NO_TUPLES + ((), (0, 1), (0, 1, 1), (0, 1, 3), (-1, 0, 1), (0, 1, 2, 2), (0, 1, 2, 3), nest(100000)):
            self.assertIs(is_mixed_sequence(net, (1,), value), False)
        for value in NO_INTEGERS:
            self.assertIs(is_mixed_sequence(net, (), (value, 1, 2)), False)
            self.assertIs(is_mixed_sequence(net, (2,), (0, 1, value)), False)

    def test_made(self):
        for rng in drawn(60, 350):
            net = draw_net(rng)
            for lot in lots_of(range(len(net.things))):
                sequence = mixed_sequence(net=net, lot=lot)
                self.assertTrue(is_mixed_sequence(net, lot, sequence))
                line = line_of(lot=lot, sequence=sequence)
                self.assertEqual(line[::-1], sequence[len(sequence) - len(lot):])
        self.assertEqual(line_of((0, 2, 3), (1, 3, 0, 2)), (2, 0, 3))
        self.assertEqual(line_of((), (1, 0)), ())


class TestMessages(unittest.TestCase):
    def test_simple(self):
        self.assertEqual(best_messages(net=NET, news=(), lot=(0, 1), sequence=(1, 0)), (
            ((0,), (((1, 1), ((1, 0),)), ((1, 2), ((1, 0),)))), ((), (((2, 5), ((0, 0), (1, 0))),))))
        self.assertEqual(best_messages(NET, (), (0,), (1, 0)), (((0,), ((1, 1), (1, 1))), ((), (((3, 5), ((0, 1),)),))))
        self.assertEqual(best_messages(NET, (), (), (0, 1)), (((1,), ((7, 10), (3, 10))), ((), ((1, 1),))))
        self.assertEqual(best_messages(SURE, NO_WORLD, (0,), (1, 2, 0))[2], ((), (None,)))
        told = best_messages(SURE, NO_WORLD, (0, 1, 2), (2, 0, 1))
        self.assertEqual(told[1], ((1,), (None, None)))
        self.assertEqual(told[2], ((), (None,)))

    def test_drawn(self):
        for rng in drawn(120, 351):
            net = draw_net(rng)
            news = draw_news(rng, net)
            lot = draw_any_lot(rng, net)
            sequence = draw_mixed(rng, net, lot)
            told = best_messages(net, news, lot, sequence)
            self.assertIs(type(told), tuple)
            due = plain_messages(net, news, lot, sequence)
            for thing, (things, entries), (lot_of, by_filling) in zip(sequence, told, due, strict=True):
                self.assertEqual((things, type(entries)), (lot_of, tuple))
                self.assertEqual(entries, tuple(as_told(by_filling[key]) for key in fillings_in(net, things)))

    def test_long(self):
        net = chain_net_of(24)
        told = best_messages(net, (), tuple(range(24)), tuple(range(24)))
        weight, part = told[23][1][0]
        self.assertEqual([thing for thing, _ in part], list(range(24)))
        share = 1
        for thing, case in part:
            row = net.things[thing][3][part[thing - 1][1] if thing else 0]
            share *= plain(row[case])
        self.assertEqual(plain(weight), share)


if __name__ == "__main__":
    unittest.main()
