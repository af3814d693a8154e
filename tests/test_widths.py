"""Points 33 and 34: free things, floors, and sequences of the least cost."""

import unittest
from itertools import combinations, permutations

from allworlds.errors import Refused
from allworlds.sequences import clusters_by, cost_by, lot_size
from allworlds.widths import core_floor, free_first, is_free, is_least_sequence, least_sequence, least_width
from tests.drawn import NO_INTEGERS, NO_TUPLES, Odd, draw_lot, drawn, nest
from tests.test_sequences import RING, draw_scopes, plain_cluster

TWOS = (2, 2, 2, 2)
KINDS = ("greatest", "total")


def plain_free(scopes, before, thing):
    """Whether a thing is free, by lines of tied things."""
    others = [other for other in plain_cluster(scopes, before, thing) if other != thing]
    return all(other in plain_cluster(scopes, before, one) for one in others for other in others)


def plain_floor(counts, scopes, lot, part):
    """The floor of a part of a lot."""
    sizes = []
    for thing in part:
        tied = {other for scope in scopes if thing in scope for other in scope if other in part or other not in lot}
        sizes.append(lot_size(counts, tied | {thing}))
    return min(sizes)


def plain_cost(counts, scopes, sequence, kind):
    """The cost of a sequence."""
    sizes = [
        lot_size(counts, plain_cluster(scopes, sequence[:at], thing)) for at, thing in enumerate(sequence)]
    return sum(sizes) if kind == "total" else max(sizes + [0])


def least_cost(counts, scopes, lot, kind):
    """The least cost of all sequences of a lot."""
    return min(cost_by(counts, scopes, sequence, kind) for sequence in permutations(lot))


def plain_is_paper(counts, scopes, lot, kind, many, sequence, heights):
    """Whether a number, a sequence and pairs with the right kinds are a cost paper, by its words."""
    if not 0 <= many <= len(sequence) or kind == "total" and many:
        return False
    if not all(plain_free(scopes, sequence[:at], sequence[at]) for at in range(many)):
        return False
    first, rest = sequence[:many], set(sequence[many:])
    cost = plain_cost(counts, scopes, sequence, kind)
    parts = [part for part, _ in heights]
    if parts != sorted(set(parts)) or any(number < 0 or number >= cost for _, number in heights):
        return False
    if any(not set(part) <= rest or set(part) == rest for part in parts):
        return False
    height = dict(heights)
    if height.get((), cost) > plain_cost(counts, scopes, first, kind):
        return False
    for part, number in heights:
        for thing in rest - set(part):
            size = lot_size(counts, plain_cluster(scopes, first + part, thing))
            most = number + size if kind == "total" else max(number, size)
            if height.get(tuple(sorted(part + (thing,))), cost) > most:
                return False
    return True


def draw_case(rng, most=5):
    """Counts, scopes and a lot."""
    counts = tuple(rng.randint(2, 4) for _ in range(6))
    scopes = draw_scopes(rng) + tuple(tuple(sorted(rng.sample(range(6), 2))) for _ in range(rng.randint(0, 5)))
    lot = tuple(sorted(rng.sample(range(6), rng.randint(0, most))))
    return counts, scopes, lot


class TestFree(unittest.TestCase):
    def test_simple(self):
        self.assertIs(is_free(RING, (), 0), False)
        self.assertIs(is_free(RING, (0,), 1), True)
        self.assertIs(is_free((), (), 3), True)
        self.assertIs(is_free(scopes=((0, 1), (1, 2)), before=(), thing=1), False)
        self.assertIs(is_free(((0, 1), (1, 2)), (2,), 1), True)
        self.assertEqual(free_first(RING, (0, 1, 2, 3)), ())
        self.assertEqual(free_first(scopes=RING[:3], lot=(0, 1, 2, 3)), (0, 1, 2, 3))
        self.assertEqual(free_first(RING[:3], (1, 2, 3)), (3, 2, 1))
        self.assertEqual(free_first(RING[:3], ()), ())

    def test_drawn(self):
        for rng in drawn(150, 90):
            _, scopes, lot = draw_case(rng, 6)
            mixed = rng.sample(range(6), 6)
            many = rng.randint(0, 5)
            before = tuple(mixed[:many])
            self.assertIs(is_free(scopes, before, mixed[many]), plain_free(scopes, before, mixed[many]))
            due = ()
            while True:
                free = [thing for thing in lot if thing not in due and plain_free(scopes, due, thing)]
                if not free:
                    break
                due += (free[0],)
            self.assertEqual(free_first(scopes, lot), due)
            # Other free ones leave the same rest.
            other = ()
            while True:
                free = [thing for thing in lot if thing not in other and plain_free(scopes, other, thing)]
                if not free:
                    break
                other += (rng.choice(free),)
            self.assertEqual(sorted(other), sorted(due))

    def test_any_free_one_begins_a_least_sequence(self):
        begun = 0
        for rng in drawn(60, 91):
            counts, scopes, lot = draw_case(rng)
            least = least_cost(counts, scopes, lot, "greatest")
            for thing in lot:
                if plain_free(scopes, (), thing):
                    rest = tuple(other for other in lot if other != thing)
                    begun += 1
                    self.assertEqual(least, min(
                        cost_by(counts, scopes, (thing,) + sequence, "greatest") for sequence in permutations(rest)))
        self.assertGreater(begun, 30)


class TestFloor(unittest.TestCase):
    def test_simple(self):
        self.assertEqual(core_floor(TWOS, RING, (0, 1, 2, 3)), (8, (0, 1, 2, 3)))
        self.assertEqual(core_floor(counts=TWOS, scopes=RING, lot=()), (0, ()))
        self.assertEqual(core_floor(TWOS, (), ()), (0, ()))
        self.assertEqual(core_floor((2, 3), (), (0, 1)), (3, (1,)))
        self.assertEqual(core_floor((3, 3), (), (0, 1)), (3, (0, 1)))
        # Tied things that are not in the lot count always.
        self.assertEqual(core_floor(TWOS, RING, (0,)), (8, (0,)))
        self.assertEqual(core_floor(TWOS, RING[:3], (1, 2)), (8, (1, 2)))

    def test_drawn(self):
        for rng in drawn(150, 92):
            counts, scopes, lot = draw_case(rng, 6)
            if not lot:
                continue
            parts = [part for many in range(1, len(lot) + 1) for part in combinations(lot, many)]
            floors = {part: plain_floor(counts, scopes, lot, part) for part in parts}
            best = max(floors.values())
            union = tuple(sorted({thing for part in parts if floors[part] == best for thing in part}))
            self.assertEqual(floors[union], best)
            self.assertEqual(core_floor(counts, scopes, lot), (best, union))
            if len(lot) < 6:
                self.assertLessEqual(best, least_cost(counts, scopes, lot, "greatest"))


class TestLeast(unittest.TestCase):
    def test_simple(self):
        self.assertEqual(clusters_by(RING, (0, 2, 3, 1)), ((0, 1, 3), (1, 2, 3), (1, 3), (1,)))
        self.assertEqual(least_width(TWOS, RING, (0, 1, 2, 3)), 8)
        self.assertEqual(least_width(counts=TWOS, scopes=RING, lot=()), 0)
        for kind in KINDS:
            self.assertEqual(least_sequence(TWOS, RING, (), kind), (0, (), ()))
            self.assertIs(is_least_sequence(TWOS, RING, (), kind, (0, (), ())), True)
            value = least_sequence(counts=TWOS, scopes=RING, lot=(0, 1, 2, 3), kind=kind)
            self.assertIs(is_least_sequence(counts=TWOS, scopes=RING, lot=(0, 1, 2, 3), kind=kind, value=value), True)

    def test_drawn(self):
        for rng in drawn(150, 93):
            counts, scopes, lot = draw_case(rng)
            for kind in KINDS:
                paper = least_sequence(counts, scopes, lot, kind)
                many, sequence, heights = paper
                self.assertTrue(plain_is_paper(counts, scopes, lot, kind, *paper))
                self.assertIs(is_least_sequence(counts, scopes, lot, kind, paper), True)
                cost = cost_by(counts, scopes, sequence, kind)
                self.assertEqual(cost, least_cost(counts, scopes, lot, kind))
                if kind == "greatest":
                    self.assertEqual(least_width(counts, scopes, lot), cost)

    def test_papers_of_any_sequence(self):
        right = 0
        for rng in drawn(400, 94):
            counts, scopes, lot = draw_case(rng, 4)
            kind = rng.choice(KINDS)
            sequence = tuple(rng.sample(lot, len(lot)))
            many = 0 if kind == "total" and rng.random() < 0.9 else rng.randint(0, len(lot))
            rest = tuple(sorted(sequence[many:]))
            cost = cost_by(counts, scopes, sequence, kind)
            heights = []
            for size in range(len(rest)):
                for part in combinations(rest, size):
                    due = min((cost_by(counts, scopes, sequence[:many] + way, kind) for way in permutations(part)), default=0)
                    number = due - rng.choice((0, 0, 0, 0, 0, 1, 2))
                    if number < cost and rng.random() < 0.97:
                        heights.append((part, max(0, number)))
            value = (many, sequence, tuple(sorted(heights)))
            told = plain_is_paper(counts, scopes, lot, kind, *value)
            self.assertIs(is_least_sequence(counts, scopes, lot, kind, value), told)
            if told:
                right += 1
                self.assertEqual(cost, least_cost(counts, scopes, lot, kind))
        self.assertGreater(right, 60)

    def test_nearly_papers(self):
        for rng in drawn(120, 95):
            counts, scopes, lot = draw_case(rng, 5)
            kind = rng.choice(KINDS)
            many, sequence, heights = least_sequence(counts, scopes, lot, kind)
            spoilt = [(many + 1, sequence, heights), (many - 1, sequence, heights), (many, sequence[::-1], heights),
                      (many, sequence, heights + heights[:1]), (many, sequence, heights[1:]), (many, sequence, heights[:-1])]
            for at, (part, number) in enumerate(heights):
                for other in ((part, number + 1), (part, number - 1), (part, number + 2 ** 20), (sequence, number)):
                    spoilt.append((many, sequence, heights[:at] + (other,) + heights[at + 1:]))
                spoilt.append((many, sequence, heights[:at] + heights[at + 1:]))
                spoilt.append((many, sequence, heights[at:] + heights[:at]))
            rest = tuple(sorted(sequence[many:]))
            # All of the rest has no number, however low the cost could be told so.
            cost = cost_by(counts, scopes, sequence, kind)
            spoilt += [(many, sequence, tuple(sorted(heights + ((rest, number),)))) for number in (0, cost // 2, cost - 1)]
            other = tuple(sorted(sequence, key=lambda thing: -counts[thing]))
            cost = cost_by(counts, scopes, other, kind)
            spoilt.append((0, other, tuple(sorted(heights + ((lot, cost - 1),)))))
            for value in spoilt:
                told = plain_is_paper(counts, scopes, lot, kind, *value)
                self.assertIs(is_least_sequence(counts, scopes, lot, kind, value), told, (kind, value))
            for value in ([many, sequence, heights], (many, list(sequence), heights), (many, sequence, list(heights)),
                          (many, sequence), (many, sequence, heights, ()), (bool(many), sequence, heights)):
                self.assertIs(is_least_sequence(counts, scopes, lot, kind, value), False)

    def test_any_value(self):
        lot = (0, 1, 2, 3)
        many, sequence, heights = least_sequence(TWOS, RING, lot, "total")
        self.assertEqual(heights[0], ((), 0))
        self.assertIs(is_least_sequence(TWOS, RING, lot, "total", (many, sequence, heights)), True)
        for value in [item for item in NO_TUPLES if type(item) is not int or item] + [(), nest(100000)]:
            wrong = [value, (value, sequence, heights), (many, value, heights), (many, sequence, (value,) + heights),
                     (many, sequence, ((value, 0),) + heights), (many, sequence, (((), value),) + heights[1:]),
                     (many, sequence, (((value,), 0),) + heights)]
            wrong.append((many, sequence, value))
            for item in wrong:
                self.assertIs(is_least_sequence(TWOS, RING, lot, "total", item), False)
        for item in NO_INTEGERS + (Odd(),):
            self.assertIs(is_least_sequence(TWOS, RING, lot, "total", (item, sequence, heights)), False)
            self.assertIs(is_least_sequence(TWOS, RING, lot, "total", (many, (item,) + sequence[1:], heights)), False)
            self.assertIs(is_least_sequence(TWOS, RING, lot, "total", (many, sequence, (((), item),) + heights[1:])), False)
        self.assertIs(is_least_sequence(TWOS, RING, lot, "total", (0, sequence, heights)), True)
        self.assertIs(is_least_sequence(TWOS, RING, lot, "total", (-1, sequence, heights)), False)
        self.assertIs(is_least_sequence(TWOS, RING, lot, "greatest", (5, sequence, ())), False)
        # What is free can come first only for the greatest size.
        line = RING[:3]
        self.assertIs(is_least_sequence(TWOS, line, lot, "greatest", (4, lot, ())), True)
        self.assertIs(is_least_sequence(TWOS, line, lot, "total", (4, lot, ())), False)

    def refused(self, counts, scopes, lot, kinds=KINDS):
        for kind in kinds:
            with self.assertRaises(Refused) as caught:
                least_sequence(counts, scopes, lot, kind)
            self.assertEqual(caught.exception.word, "size")
        if "greatest" in kinds:
            with self.assertRaises(Refused) as caught:
                least_width(counts, scopes, lot)
            self.assertEqual(caught.exception.word, "size")

    def test_size(self):
        counts = (2,) * 24
        lines = tuple((at, at + 1) for at in range(23))
        self.assertEqual(least_width(counts, lines, tuple(range(24))), 4)
        self.assertEqual(least_sequence(counts, lines, tuple(range(24)), "greatest")[0], 24)
        self.refused(counts, lines, tuple(range(11)), ("total",))
        paper = least_sequence(counts, lines, tuple(range(10)), "total")
        self.assertIs(is_least_sequence(counts, lines, tuple(range(10)), "total", paper), True)
        ring = lines[:10] + ((0, 10),)
        self.refused(counts, ring, tuple(range(11)))
        ring = lines[:9] + ((0, 9),)
        for kind in KINDS:
            paper = least_sequence(counts, ring, tuple(range(10)), kind)
            self.assertEqual(paper[0], 0)
            self.assertIs(is_least_sequence(counts, ring, tuple(range(10)), kind, paper), True)
            self.assertEqual(cost_by(counts, ring, paper[1], kind), 8 if kind == "greatest" else 8 * 8 + 4 + 2)
        # Free things do not count among those left.
        tail = ring + tuple((at, at + 1) for at in range(9, 20))
        self.assertEqual(least_width(counts, tail, tuple(range(21))), 8)
        self.refused(counts, tail, tuple(range(21)), ("total",))
        # Nor does a paper of more things raise anything.
        self.assertIs(is_least_sequence(counts, ring, tuple(range(12)), "total", (0, tuple(range(12)), ())), False)


if __name__ == "__main__":
    unittest.main()
