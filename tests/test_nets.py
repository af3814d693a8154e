"""Points 2, 8 and 9: nets and families."""

import unittest

from allworlds.errors import InvalidNet, Refused
from allworlds.nets import (
    Net, chance_at, children_of, counts_of, family_of, names_of, number_of, older_lot, parents_of, row_for, subnet,
    younger_lot,
)
from tests.drawn import (
    NO_INTEGERS, NO_TUPLES, Odd, all_worlds, draw_lot, draw_net, drawn, nest, pair_of, plain, plain_row,
    plain_world_share,
)

HALF, FIFTH = ((1, 2), (1, 2)), ((1, 5), (4, 5))
GOOD = (("flour", 2, (), (HALF,)), ("salt", 2, (), (FIFTH,)), ("crust", 2, (0, 1), (HALF, FIFTH, HALF, HALF)))
FLOUR, SALT, CRUST = GOOD


class TestNet(unittest.TestCase):
    def refused_at(self, value, at):
        with self.assertRaises(InvalidNet) as caught:
            Net(value)
        self.assertEqual(caught.exception.at, at)

    def with_third(self, **parts):
        """The good things with other parts of the third one."""
        told = dict(zip(("name", "count", "parents", "rows"), CRUST))
        told.update(parts)
        return (FLOUR, SALT, tuple(told.values()))

    def test_example(self):
        net = Net(GOOD)
        self.assertEqual(older_lot(net, (1,)), (1,))
        self.assertEqual(chance_at(net, 2, (0, 1, 1)), (4, 5))
        self.assertEqual(subnet(net, (1,)).things, (('salt', 2, (), (((1, 5), (4, 5)),)),))

    def test_attributes(self):
        self.assertEqual(vars(Net(GOOD)), {"things": GOOD})
        self.assertEqual(vars(Net(things=GOOD)), {"things": GOOD})
        Net(self.with_third())

    def test_no_tuple(self):
        for value in NO_TUPLES + ((), [FLOUR]):
            self.refused_at(value, -1)

    def test_items(self):
        for item in NO_TUPLES + ((), FLOUR[:3], FLOUR + (1,), list(FLOUR), nest(100000)):
            self.refused_at((item,), 0)
            self.refused_at((FLOUR, item), 1)
            self.refused_at((FLOUR, item, item, FLOUR), 1)

    def test_names(self):
        for name in NO_TUPLES:
            if not isinstance(name, str) or name == "":
                self.refused_at(self.with_third(name=name), 2)
        for name in ("", "abcdefg", "A", "aB", "a1", "a b", "a ", "a\n", "\u00e4", "ß", "`", "{", ("a",), "flour", "salt"):
            self.refused_at(self.with_third(name=name), 2)
        for name in ("a", "z", "abcdef", "is", "of", "never"):
            self.assertEqual(Net(self.with_third(name=name)).things[2][0], name)

    def test_counts(self):
        for count in NO_INTEGERS + (0, 1, -2, 3, 10 ** 30):
            self.refused_at(self.with_third(count=count), 2)
        self.refused_at((("a", 1, (), (((1, 1),),)),), 0)
        row = tuple((1, 1) if at == 6 else (0, 1) for at in range(7))
        self.assertEqual(counts_of(Net((("a", 7, (), (row,)),))), (7,))

    def test_parents(self):
        for parents in NO_TUPLES + ((1, 0), (0, 0), (0, 2), (0, 3), (-1, 0), (False, 1), (0, True), (0, 1.0), [0, 1],
                                    (0,), (), ((0,), 1), nest(100000), (0, Odd())):
            self.refused_at(self.with_third(parents=parents), 2)
        self.refused_at((("a", 2, (0,), (HALF, HALF)),), 0)
        self.refused_at((("a", 2, (1,), (HALF, HALF)), FLOUR), 0)

    def test_rows(self):
        for rows in NO_TUPLES + ((), (HALF,) * 3, (HALF,) * 5, [HALF] * 4, HALF, (HALF, HALF, HALF, None)):
            self.refused_at(self.with_third(rows=rows), 2)
        wrong = (None, (), ((1, 1),), HALF + ((0, 1),), list(HALF), ((1, 2), (1, 3)), ((1, 2), (2, 4)), ((3, 2), (-1, 2)),
                 ((1, 1), (1, 1)), ((0, 1), (0, 1)), (1, 0), ((1, 1), 0), ((1, 1), (0, 2)), ((True, 1), (0, 1)),
                 ((1, True), (0, 1)), ((1, 1), (False, 1)), ([1, 1], (0, 1)), ((1, 1), None), nest(100000), (Odd(), Odd()),
                 ((1, 1), (0, 1, 1)), ((1.0, 1), (0, 1)))
        for row in wrong:
            for at in range(4):
                self.refused_at(self.with_third(rows=(HALF,) * at + (row,) + (HALF,) * (3 - at)), 2)
            self.refused_at((("a", 2, (), (row,)),), 0)

    def test_first_of_two(self):
        bad = self.with_third(name="flour")[2]
        self.refused_at((FLOUR, bad, bad), 1)
        self.refused_at((bad, FLOUR, bad), 0)
        self.refused_at((FLOUR, FLOUR, None), 1)
        self.refused_at((FLOUR, SALT, FLOUR, None), 2)

    def test_equality(self):
        self.assertTrue(Net(GOOD) == Net(tuple(list(GOOD))))
        self.assertFalse(Net(GOOD) != Net(GOOD))
        self.assertFalse(Net(GOOD) == Net(GOOD[:2]))
        self.assertTrue(Net(GOOD) != Net(self.with_third(name="a")))
        for value in NO_TUPLES + (GOOD, list(GOOD), (), ValueError()):
            if not isinstance(value, Odd):
                self.assertIs(Net(GOOD) == value, False)
                self.assertIs(Net(GOOD) != value, True)
        self.assertIs(Net(GOOD).__eq__(Odd()), False)

    def test_sum_one(self):
        for rng in drawn(40, 7):
            net = draw_net(rng)
            worlds = all_worlds(net)
            self.assertEqual(sum(plain_world_share(net, world) for world in worlds), 1)
            for world in worlds[:40]:
                for thing in range(len(net.things)):
                    row = plain_row(net, thing, world)
                    cases = tuple(world[parent] for parent in net.things[thing][2])
                    self.assertEqual(row_for(net, thing, cases), row)
                    self.assertEqual(chance_at(net, thing, world), row[world[thing]])


class TestParts(unittest.TestCase):
    def test_parts(self):
        net = Net(GOOD)
        self.assertEqual(names_of(net), ("flour", "salt", "crust"))
        self.assertEqual(counts_of(net), (2, 2, 2))
        self.assertEqual([number_of(net, name) for name in names_of(net)], [0, 1, 2])
        self.assertEqual(row_for(net, 2, (0, 1)), FIFTH)
        self.assertEqual(row_for(net, 0, ()), HALF)
        self.assertEqual(row_for(net=net, thing=1, filling=()), FIFTH)

    def test_no_name(self):
        for name in NO_TUPLES + ("flou", "flourx", "Flour", "", 0, ("flour",), ["flour"], nest(100000)):
            with self.assertRaises(Refused) as caught:
                number_of(Net(GOOD), name)
            self.assertEqual(caught.exception.word, "name")


class TestFamilies(unittest.TestCase):
    def test_families(self):
        net = Net(GOOD)
        self.assertEqual([parents_of(net, thing) for thing in range(3)], [(), (), (0, 1)])
        self.assertEqual([children_of(net, thing) for thing in range(3)], [(2,), (2,), ()])
        self.assertEqual([family_of(net, thing) for thing in range(3)], [(0,), (1,), (0, 1, 2)])

    def test_lots(self):
        net = Net(GOOD)
        self.assertEqual((older_lot(net, ()), younger_lot(net, ())), ((), ()))
        self.assertEqual((older_lot(net, (2,)), younger_lot(net, (0,))), ((0, 1, 2), (0, 2)))
        self.assertEqual((older_lot(net, (1, 0, 1)), younger_lot(net, (2, 2, 1))), ((0, 1), (1, 2)))

    def test_drawn(self):
        for rng in drawn(60, 8):
            net = draw_net(rng, rng.randint(1, 8), parents=2)
            every = range(len(net.things))
            for thing in every:
                self.assertEqual(children_of(net, thing), tuple(k for k in every if thing in net.things[k][2]))
                self.assertEqual(family_of(net, thing), tuple(sorted(net.things[thing][2] + (thing,))))
                older = older_lot(net, (thing,))
                self.assertEqual(older, tuple(k for k in every if thing in younger_lot(net, (k,))))
                self.assertTrue(all(parent in older for k in older for parent in net.things[k][2]))
                # Each but the thing itself is there for a child.
                self.assertTrue(all(k == thing or set(children_of(net, k)) & set(older) for k in older))
            lot = draw_lot(rng, len(net.things))
            mixed = list(lot) * 2
            rng.shuffle(mixed)
            for function in (older_lot, younger_lot):
                told = {k for thing in lot for k in function(net, (thing,))}
                self.assertEqual(function(net, tuple(mixed)), tuple(sorted(told)))

    def test_size(self):
        rows = tuple(tuple(pair_of(plain((1, 6))) for _ in range(6)) for _ in range(6 ** 4))
        things = [("t" + chr(97 + at), 6, tuple(range(max(0, at - 4), at)), rows[:6 ** min(at, 4)]) for at in range(24)]
        net = Net(tuple(things))
        self.assertEqual(chance_at(net, 23, (5,) * 24), (1, 6))
        self.assertEqual(older_lot(net, (23,)), tuple(range(24)))


if __name__ == "__main__":
    unittest.main()
