"""Points 18 and 19: claims."""

import unittest
from itertools import product

from allworlds.claims import check_claim, holds, parting_world, parts_of_claim, things_of_claim, without_not
from allworlds.errors import InvalidClaim, Refused
from allworlds.nets import Net
from allworlds.worlds import is_world
from tests.drawn import (
    NO_INTEGERS, NO_TUPLES, Odd, all_worlds, draw_claim, draw_net, drawn, nest, plain_holds,
)
from tests.test_worlds import free_net

HALF, THIRD = ((1, 2), (1, 2)), ((1, 3), (1, 3), (1, 3))
NET = Net((("flour", 2, (), (HALF,)), ("salt", 3, (), (THIRD,)), ("crust", 2, (0,), (HALF, HALF))))
A, B, C = ("is", 0, (0,)), ("is", 1, (0, 2)), ("is", 2, ())


def plain_parts(claim):
    """The parts by the words of the document."""
    inner = () if claim[0] == "is" else claim[1:]
    return (claim,) + tuple(deep for part in inner for deep in plain_parts(part))


def only_is(claim):
    """Whether a claim has no "not"."""
    return all(part[0] != "not" for part in plain_parts(claim))


class TestCheck(unittest.TestCase):
    def refused_at(self, value, at):
        with self.assertRaises(InvalidClaim) as caught:
            check_claim(NET, value)
        self.assertEqual(caught.exception.at, at)

    def test_right(self):
        for claim in (A, B, C, ("is", 1, (0, 1, 2)), ("not", A), ("and", A, A), ("or", A, B, C, A, B),
                      ("not", ("not", ("and", ("or", A, B), C)))):
            self.assertIsNone(check_claim(NET, claim))

    def test_no_claim(self):
        wrong = NO_TUPLES + ((), ("is",), ("no", A), ("", A), ("IS", 0, ()), (A,), (("is",), 0, ()), (b"is", 0, ()),
                             (Odd(), A, A), (nest(100000), A), nest(100000), (None, A, B), ("is", 0), ("is", 0, (0,), 1),
                             ("not",), ("not", A, B), ("and",), ("and", A), ("or",), ("or", A), ["not", A], ["is", 0, ()])
        for value in wrong:
            self.refused_at(value, 0)
            self.refused_at(("not", value), 1)
            self.refused_at(("and", A, value), 2)
            self.refused_at(("or", ("and", A, B), ("not", C), value), 6)

    def test_is(self):
        for thing in NO_INTEGERS + (-1, 3, 10 ** 30, "flour"):
            self.refused_at(("is", thing, ()), 0)
        for cases in NO_TUPLES + ((2,), (0, 0), (1, 0), (-1,), (0, 2), [0], (True,), (False, 1), (0.0,), ("0",), ((0,),),
                                  (None,), (Odd(),), nest(100000), (10 ** 30,)):
            self.refused_at(("is", 0, cases), 0)

    def test_first_of_two(self):
        self.refused_at(("and", ("not", None), ("or", A)), 2)
        self.refused_at(("and", ("not", A), ("or", A), None), 3)
        # A part with a wrong form comes before the claims in it.
        self.refused_at(("and", A, ("not", None, None)), 2)
        self.refused_at(("and", A, ("or", None)), 2)
        self.refused_at(("or", None, None), 1)

    def test_deep(self):
        for leaf, at in ((A, None), (("is", 3, ()), 50000), (None, 50000), (nest(1000), 50000)):
            value = leaf
            for _ in range(50000):
                value = ("not", value)
            if at is None:
                self.assertIsNone(check_claim(NET, value))
            else:
                self.refused_at(value, at)
        value = A
        for _ in range(20000):
            value = ("and", value, A)
        self.assertIsNone(check_claim(NET, value))
        self.refused_at(("or", value, None), 40002)

    def test_drawn(self):
        for rng in drawn(100, 21):
            net = draw_net(rng)
            claim = draw_claim(rng, net)
            self.assertIsNone(check_claim(net, claim))
            at = rng.randrange(len(plain_parts(claim)))
            bad = ("is", len(net.things), ())

            def spoiled(part, number):
                if number == at:
                    return bad
                inner = ()
                if part[0] == "is":
                    return part
                number += 1
                for claim_in in part[1:]:
                    inner += (spoiled(claim_in, number),)
                    number += len(plain_parts(claim_in))
                return (part[0],) + inner

            with self.assertRaises(InvalidClaim) as caught:
                check_claim(net, spoiled(claim, 0))
            self.assertEqual(caught.exception.at, at)


class TestParts(unittest.TestCase):
    def test_parts(self):
        claim = ("or", ("and", A, ("not", B)), C)
        self.assertEqual(parts_of_claim(claim), (claim, claim[1], A, ("not", B), B, C))
        self.assertEqual(parts_of_claim(A), (A,))
        self.assertEqual(things_of_claim(claim), (0, 1, 2))
        self.assertEqual(things_of_claim(("and", B, ("not", B))), (1,))
        self.assertEqual(things_of_claim(("and", *[("is", thing, ()) for thing in (17, 3, 16, 8, 1, 23)])), (1, 3, 8, 16, 17, 23))

    def test_holds(self):
        self.assertIs(holds(A, (0, 0, 0)), True)
        self.assertIs(holds(A, (1, 0, 0)), False)
        self.assertIs(holds(C, (0, 0, 0)), False)
        self.assertIs(holds(("not", C), (0, 0, 0)), True)
        self.assertIs(holds(("is", 1, (0, 1, 2)), (0, 2, 0)), True)
        self.assertIs(holds(("and", A, B), (0, 1, 0)), False)
        self.assertIs(holds(("or", A, B), (0, 1, 0)), True)

    def test_drawn(self):
        for rng in drawn(100, 22):
            net = draw_net(rng, rng.randint(1, 4))
            claim = draw_claim(rng, net)
            self.assertEqual(parts_of_claim(claim), plain_parts(claim))
            things = things_of_claim(claim)
            self.assertEqual(things, tuple(sorted({part[1] for part in plain_parts(claim) if part[0] == "is"})))
            # Only the cases of the claim's things count.
            told = {}
            for world in all_worlds(net):
                answer = holds(claim, world)
                self.assertIs(answer, plain_holds(claim, world))
                self.assertIs(told.setdefault(tuple(world[thing] for thing in things), answer), answer)


class TestAlike(unittest.TestCase):
    def test_example(self):
        half, fifth = ((1, 2), (1, 2)), ((1, 5), (4, 5))
        net = Net((("flour", 2, (), (half,)), ("salt", 2, (), (fifth,)), ("crust", 2, (0, 1), (half, fifth, half, half))))
        self.assertEqual(without_not(net, ("not", ("or", ("is", 0, (1,)), ("not", ("is", 2, (0, 1)))))),
                         ("and", ("is", 0, (0,)), ("is", 2, (0, 1))))

    def test_without_not(self):
        self.assertEqual(without_not(NET, A), A)
        self.assertEqual(without_not(NET, A, turned=True), ("is", 0, (1,)))
        self.assertEqual(without_not(NET, B, turned=True), ("is", 1, (1,)))
        self.assertEqual(without_not(NET, C, turned=True), ("is", 2, (0, 1)))
        self.assertEqual(without_not(NET, ("is", 2, (0, 1)), turned=True), C)
        self.assertEqual(without_not(NET, ("not", A), turned=True), A)
        self.assertEqual(without_not(NET, ("not", A), turned=False), ("is", 0, (1,)))
        self.assertEqual(without_not(NET, ("and", A, ("and", A, ("not", B)))), ("and", A, ("and", A, ("is", 1, (1,)))))
        self.assertEqual(without_not(NET, ("or", A, ("not", ("and", A, B))), turned=True),
                         ("and", ("is", 0, (1,)), ("and", A, B)))
        with self.assertRaises(TypeError):
            without_not(NET, A, True)

    def test_without_not_drawn(self):
        for rng in drawn(100, 23):
            net = draw_net(rng, rng.randint(1, 4))
            claim = draw_claim(rng, net)
            straight, turned = without_not(net, claim), without_not(net, claim, turned=True)
            check_claim(net, straight)
            check_claim(net, turned)
            self.assertTrue(only_is(straight) and only_is(turned))
            kept = [len(part) for part in plain_parts(claim) if part[0] != "not"]
            self.assertEqual([len(part) for part in plain_parts(straight)], kept)
            self.assertEqual([len(part) for part in plain_parts(turned)], kept)
            for world in all_worlds(net):
                self.assertIs(plain_holds(straight, world), plain_holds(claim, world))
                self.assertIs(plain_holds(turned, world), not plain_holds(claim, world))

    def test_parting(self):
        self.assertIsNone(parting_world(NET, A, A))
        self.assertIsNone(parting_world(NET, A, ("not", ("is", 0, (1,)))))
        self.assertIsNone(parting_world(NET, C, ("is", 1, ())))
        self.assertIsNone(parting_world(NET, ("is", 1, (0, 1, 2)), ("not", C)))
        world = parting_world(NET, ("is", 1, (2,)), ("is", 1, ()))
        self.assertTrue(is_world(NET, world) and world[1] == 2)

    def test_parting_drawn(self):
        none = 0
        for rng in drawn(300, 24):
            net = draw_net(rng, rng.randint(1, 3))
            one, other = draw_claim(rng, net, 2), draw_claim(rng, net, 2)
            world = parting_world(net, one, other)
            parting = [w for w in all_worlds(net) if plain_holds(one, w) != plain_holds(other, w)]
            if parting:
                self.assertIn(world, parting)
                self.assertTrue(is_world(net, world))
            else:
                self.assertIsNone(world)
                none += 1
        self.assertGreater(none, 10)

    def test_parting_size(self):
        counts = (5, 5, 5, 5, 2, 2, 2, 2, 2, 2)
        net = free_net(counts)

        def every(things):
            return ("and",) + tuple(("is", thing, (1,)) for thing in things)

        # The things of both claims count, not those of the net; 20,000 fillings are not too many.
        self.assertEqual(parting_world(net, every(range(5)), every(range(9)))[:5], (1,) * 5)
        self.assertIsNone(parting_world(net, every(range(9)), every(range(9))))
        for one, other in ((range(10), range(2)), (range(5), range(4, 10)), (range(10), range(10))):
            with self.assertRaises(Refused) as caught:
                parting_world(net, every(one), every(other))
            self.assertEqual(caught.exception.word, "size")

    def test_deep(self):
        claim = A
        for _ in range(3000):
            claim = ("not", claim)
        self.assertIs(holds(claim, (0, 0, 0)), True)
        self.assertEqual(without_not(NET, claim), A)
        self.assertEqual(len(parts_of_claim(claim)), 3001)


class TestTruth(unittest.TestCase):
    def test_all_small(self):
        # Each claim of one "and" or "or" over each pair of lots of cases, in all worlds.
        lots = [tuple(k for k in range(3) if bits >> k & 1) for bits in range(8)]
        for word, one, other in product(("and", "or"), lots, lots):
            claim = (word, ("is", 1, one), ("not", ("is", 1, other)))
            for world in all_worlds(NET):
                first, second = world[1] in one, world[1] not in other
                self.assertIs(holds(claim, world), first and second if word == "and" else first or second)


if __name__ == "__main__":
    unittest.main()
