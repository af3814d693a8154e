"""Points 35, 36 and 37: ties."""

import unittest
from itertools import combinations, permutations

from allworlds.errors import Refused
from allworlds.ties import (
    bare_loop, filled_ties, is_smooth, made_lots, married_ties, smooth_sequence, thin_ties, things_in, tied_to,
    ties_within,
)
from tests.drawn import draw_net, drawn

SQUARE = ((0, 1), (0, 3), (1, 2), (2, 3))


def draw_ties(rng, things=6, chance=None):
    """A lot of pairs."""
    chance = rng.random() if chance is None else chance
    return tuple(pair for pair in combinations(range(things), 2) if rng.random() < chance)


def are_tied(ties, one, other):
    """Whether two things are tied."""
    return (min(one, other), max(one, other)) in ties


def plain_fill(ties, sequence):
    """The lots made and the ties filled, from the words of the document."""
    told, lots, left = set(ties), [], list(sequence)
    now = set(ties)
    for thing in sequence:
        tied = [other for other in left if other != thing and are_tied(now, thing, other)]
        lots.append(tuple(sorted([thing] + tied)))
        for pair in combinations(sorted(tied), 2):
            now.add(pair)
            told.add(pair)
        left.remove(thing)
    return tuple(lots), tuple(sorted(told))


def plain_is_smooth(ties):
    """Whether some sequence fills nothing in: one after another, any thing with tied ones all tied will do."""
    things = {thing for tie in ties for thing in tie}
    while things:
        for thing in sorted(things):
            tied = [other for other in things if other != thing and are_tied(ties, thing, other)]
            if all(are_tied(ties, a, b) for a, b in combinations(tied, 2)):
                things.remove(thing)
                break
        else:
            return False
    return True


def is_bare_loop(ties, loop):
    """Whether a tuple is a loop without a tie across."""
    if len(loop) < 4 or len(set(loop)) < len(loop):
        return False
    next_ones = {frozenset((loop[at - 1], loop[at])) for at in range(len(loop))}
    return all(are_tied(ties, a, b) == (frozenset((a, b)) in next_ones) for a, b in combinations(loop, 2))


def has_path(ties, inner, one, other):
    """Whether a path of ties leads from one to the other over some things."""
    reached, rim = {one}, [one]
    while rim:
        at = rim.pop()
        for thing in set(inner) | {other}:
            if thing not in reached and are_tied(ties, at, thing):
                reached.add(thing)
                if thing != other:
                    rim.append(thing)
    return other in reached


class TestTies(unittest.TestCase):
    def test_lots(self):
        self.assertEqual(things_in(((0, 3), (), (1, 3))), (0, 1, 3))
        self.assertEqual(things_in(()), ())
        self.assertEqual(things_in(((), ())), ())
        self.assertEqual(ties_within(((0, 3, 5), (), (7,), (3, 5))), ((0, 3), (0, 5), (3, 5)))
        self.assertEqual(ties_within(()), ())
        self.assertEqual(things_in(((8, 16, 17), (1, 23))), (1, 8, 16, 17, 23))
        self.assertEqual(ties_within(((8, 16, 17), (1, 23), (0, 8))), ((0, 8), (1, 23), (8, 16), (8, 17), (16, 17)))
        self.assertEqual(tied_to(SQUARE, 1), (0, 2))
        self.assertEqual(tied_to(SQUARE, 9), ())
        self.assertEqual(tied_to((), 0), ())
        self.assertEqual(tied_to(((0, 4), (2, 4), (4, 7)), 4), (0, 2, 7))

    def test_married(self):
        for rng in drawn(40, 33):
            net = draw_net(rng)
            told = set()
            for at, thing in enumerate(net.things):
                told |= set(combinations(sorted(thing[2] + (at,)), 2))
            self.assertEqual(married_ties(net), tuple(sorted(told)))

    def test_example(self):
        self.assertEqual(made_lots(SQUARE, (0, 1, 2, 3)), ((0, 1, 3), (1, 2, 3), (2, 3), (3,)))
        self.assertEqual(sorted(bare_loop(SQUARE)), [0, 1, 2, 3])
        self.assertTrue(is_bare_loop(SQUARE, bare_loop(SQUARE)))
        self.assertIsNone(bare_loop(filled_ties(SQUARE, (0, 1, 2, 3))))

    def test_empty(self):
        self.assertEqual((made_lots((), ()), filled_ties((), ()), bare_loop(()), thin_ties((), ())), ((), (), None, ()))
        self.assertIs(is_smooth((), ()), True)
        self.assertEqual(smooth_sequence((), ()), ())
        self.assertEqual(made_lots((), (4, 2)), ((4,), (2,)))
        self.assertEqual(sorted(smooth_sequence((), (2, 4))), [2, 4])

    def test_fills(self):
        for rng in drawn(120, 34):
            ties = draw_ties(rng)
            sequence = tuple(rng.sample(range(6), 6))
            lots, filled = plain_fill(ties, sequence)
            self.assertEqual(made_lots(ties, sequence), lots)
            self.assertEqual(filled_ties(ties, sequence), filled)
            self.assertIs(is_smooth(ties, sequence), filled == ties)
            for one, other in combinations(range(6), 2):
                first = min(sequence.index(one), sequence.index(other))
                told = are_tied(ties, one, other) or has_path(ties, sequence[:first], one, other)
                self.assertIs(are_tied(filled, one, other), told)


class TestSmooth(unittest.TestCase):
    def test_smooth_sequence(self):
        smooth = 0
        for rng in drawn(150, 35):
            ties = draw_ties(rng, 5)
            some = [order for order in permutations(range(5)) if plain_fill(ties, order)[1] == ties]
            self.assertIs(plain_is_smooth(ties), bool(some))
            if some:
                self.assertIn(smooth_sequence(ties, (0, 1, 2, 3, 4)), some)
                smooth += 1
            else:
                with self.assertRaises(Refused) as caught:
                    smooth_sequence(ties, (0, 1, 2, 3, 4))
                self.assertEqual(caught.exception.word, "loop")
        self.assertGreater(smooth, 50)

    def test_bare_loop(self):
        loops = 0
        for rng in drawn(300, 36):
            ties = draw_ties(rng, rng.randint(0, 8))
            loop = bare_loop(ties)
            if plain_is_smooth(ties):
                self.assertIsNone(loop)
            else:
                self.assertIs(type(loop), tuple)
                self.assertTrue(is_bare_loop(ties, loop))
                loops += 1
        self.assertGreater(loops, 30)

    def test_no_loop_means_smooth(self):
        for rng in drawn(60, 37):
            ties = draw_ties(rng, 6)
            some = any(
                is_bare_loop(ties, (lot[0],) + rest)
                for many in (4, 5, 6) for lot in combinations(range(6), many) for rest in permutations(lot[1:]))
            self.assertIs(some, not plain_is_smooth(ties))
            self.assertIs(some, bare_loop(ties) is not None)

    def test_long_loop(self):
        ring = tuple(sorted([(at, at + 1) for at in range(23)] + [(0, 23)]))
        self.assertTrue(is_bare_loop(ring, bare_loop(ring)))
        every = tuple(combinations(range(24), 2))
        self.assertIsNone(bare_loop(every))
        self.assertEqual(len(smooth_sequence(every, tuple(range(24)))), 24)
        less = tuple(tie for tie in every if tie not in ((0, 1), (2, 3)))
        self.assertEqual(sorted(bare_loop(less)), [0, 1, 2, 3])

    def test_thin(self):
        diagonals = tuple(sorted(SQUARE + ((0, 2), (1, 3))))
        thin = thin_ties(SQUARE, diagonals)
        self.assertIn(thin, (tuple(sorted(SQUARE + ((0, 2),))), tuple(sorted(SQUARE + ((1, 3),)))))
        self.assertEqual(thin_ties((), diagonals), ())
        self.assertEqual(thin_ties(diagonals, diagonals), diagonals)

    def test_thin_drawn(self):
        for rng in drawn(80, 38):
            ties = draw_ties(rng, 6, rng.choice((0.2, 0.4, 0.6)))
            filled = plain_fill(ties, rng.sample(range(6), 6))[1]
            thin = thin_ties(ties, filled)
            self.assertEqual(thin, tuple(sorted(thin)))
            self.assertTrue(set(ties) <= set(thin) <= set(filled))
            self.assertTrue(plain_is_smooth(thin))
            spare = [tie for tie in thin if tie not in ties]
            # No other part is smooth, and, which is enough, none with one tie less.
            for many in range(len(spare)):
                for kept in combinations(spare, many):
                    self.assertFalse(plain_is_smooth(tuple(sorted(ties + kept))))

    def test_one_tie_is_enough(self):
        for rng in drawn(40, 39):
            ties = draw_ties(rng, 6, 0.3)
            every = tuple(combinations(range(6), 2))
            spare = [tie for tie in every if tie not in ties][:8]
            filled = tuple(sorted(ties + tuple(spare)))
            if plain_is_smooth(filled):
                one_less = any(
                    plain_is_smooth(tuple(tie for tie in filled if tie != gone)) for gone in spare)
                fewer = any(
                    plain_is_smooth(tuple(sorted(ties + kept)))
                    for many in range(len(spare)) for kept in combinations(spare, many))
                self.assertIs(one_less, fewer)

    def test_thin_large(self):
        ring = tuple(sorted([(at, at + 1) for at in range(23)] + [(0, 23)]))
        thin = thin_ties(ring, tuple(combinations(range(24), 2)))
        self.assertEqual(len(thin), 24 + 21)
        self.assertTrue(plain_is_smooth(thin))


if __name__ == "__main__":
    unittest.main()
