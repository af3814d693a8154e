"""Point 11: orders."""

import unittest
from itertools import permutations

from allworlds.errors import Refused
from allworlds.nets import Net, counts_of, names_of
from allworlds.orders import is_order, order_count, reordered
from tests.drawn import (
    NO_INTEGERS, NO_TUPLES, Odd, all_worlds, draw_net, drawn, nest, plain_world_share,
)
from tests.test_worlds import free_net

HALF, FIFTH = ((1, 2), (1, 2)), ((1, 5), (4, 5))
NET = Net((("flour", 2, (), (HALF,)), ("salt", 2, (), (FIFTH,)), ("crust", 2, (0, 1), (HALF, FIFTH, HALF, HALF))))


def plain_orders(net):
    """All orders, by trying all tuples of the things."""
    return [
        order for order in permutations(range(len(net.things)))
        if all(order.index(parent) < order.index(thing) for thing in order for parent in net.things[thing][2])]


def net_with(parents):
    """A net of things with these parents and two cases each."""
    return Net(tuple(("t" + chr(97 + at), 2, lot, (HALF,) * 2 ** len(lot)) for at, lot in enumerate(parents)))


class TestOrders(unittest.TestCase):
    def test_example(self):
        self.assertEqual(order_count(NET), 2)
        self.assertEqual(reordered(NET, (1, 0, 2)).things[2][3], (HALF, HALF, FIFTH, HALF))
        self.assertEqual(reordered(NET, (1, 0, 2)).things[:2], (("salt", 2, (), (FIFTH,)), ("flour", 2, (), (HALF,))))
        self.assertEqual(reordered(NET, (0, 1, 2)), NET)

    def test_is_order(self):
        self.assertIs(is_order(NET, (0, 1, 2)), True)
        self.assertIs(is_order(NET, (1, 0, 2)), True)
        wrong = NO_TUPLES + ((), (0, 1), (0, 2, 1), (2, 0, 1), (0, 1, 2, 3), (0, 0, 2), (0, 1, 1), (0, 1, 3), (-1, 0, 1),
                             [0, 1, 2], nest(100000), (0, 1, -1), (1, 2, 3))
        for value in wrong:
            self.assertIs(is_order(NET, value), False)
            with self.assertRaises(Refused) as caught:
                reordered(NET, value)
            self.assertEqual(caught.exception.word, "order")
        for item in NO_INTEGERS + (Odd(),):
            for value in ((item, 1, 2), (0, item, 2), (0, 1, item)):
                self.assertIs(is_order(NET, value), False)
                with self.assertRaises(Refused):
                    reordered(NET, value)
        self.assertIs(is_order(NET, (False, True, 2)), False)

    def test_drawn(self):
        for rng in drawn(50, 25):
            net = draw_net(rng, rng.randint(1, 5))
            orders = plain_orders(net)
            self.assertEqual(order_count(net), len(orders))
            for order in permutations(range(len(net.things))):
                self.assertIs(is_order(net, order), order in orders)
            order = rng.choice(orders)
            new = reordered(net, order)
            self.assertEqual(names_of(new), tuple(names_of(net)[thing] for thing in order))
            self.assertEqual(counts_of(new), tuple(counts_of(net)[thing] for thing in order))
            for world in all_worlds(net):
                moved = tuple(world[thing] for thing in order)
                self.assertEqual(plain_world_share(new, moved), plain_world_share(net, world))
            for number, thing in enumerate(order):
                self.assertEqual({order[parent] for parent in new.things[number][2]}, set(net.things[thing][2]))

    def test_back(self):
        for rng in drawn(30, 26):
            net = draw_net(rng, 5)
            order = rng.choice(plain_orders(net))
            back = tuple(order.index(thing) for thing in range(5))
            self.assertEqual(reordered(reordered(net, order), back), net)

    def test_size(self):
        # 13 free things have 1716 lots of 6, 14 have 3432 of 7.
        self.assertEqual(order_count(free_net((2,) * 13)), 6227020800)
        for many in (14, 24):
            with self.assertRaises(Refused) as caught:
                order_count(free_net((2,) * many))
            self.assertEqual(caught.exception.word, "size")

    def test_last_and_first_size(self):
        # The most lots of one length are 2,000 here, and 2,001 there.
        parents = [(), (), (0, 1), (), (0,), (1, 3), (), (4,), (2, 6), (), (6,), (0, 8), (6, 9), (), (), (13,), (), (), (6,)]
        self.assertEqual(order_count(net_with(parents)), 19419677216640)
        parents = [(), (), (), (0, 1), (0,), (), (), (), (), (), (), (), (), (), (4,)]
        with self.assertRaises(Refused) as caught:
            order_count(net_with(parents))
        self.assertEqual(caught.exception.word, "size")

    def test_so_many(self):
        # Free things beside a line: the lots of one length with their parents are counted plainly.
        for free, line in ((11, 4), (12, 3), (11, 5), (12, 4), (13, 2), (10, 9)):
            things = [("f" + chr(97 + at), 2, (), (HALF,)) for at in range(free)]
            for at in range(line):
                parents = (free + at - 1,) if at else ()
                things.append(("l" + chr(97 + at), 2, parents, (HALF,) * (2 if at else 1)))
            sizes = [0] * (free + line + 1)
            ways = 1
            for many in range(free + 1):
                for more in range(line + 1):
                    sizes[many + more] += ways
                ways = ways * (free - many) // (many + 1)
            net = Net(tuple(things))
            if max(sizes) > 2000:
                with self.assertRaises(Refused):
                    order_count(net)
            else:
                told = 1
                for at in range(line + 1, free + line + 1):
                    told *= at
                self.assertEqual(order_count(net), told)

    def test_line(self):
        things = [("ta", 2, (), (HALF,))] + [("t" + chr(97 + at), 2, (at - 1,), (HALF, HALF)) for at in range(1, 24)]
        self.assertEqual(order_count(Net(tuple(things))), 1)


if __name__ == "__main__":
    unittest.main()
