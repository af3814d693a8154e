"""Point 61: least blockers."""

import unittest
from itertools import combinations

from allworlds.blockers import least_blockers
from tests.drawn import drawn


def plain_blockers(lots):
    """The least blockers by trying all lots of the things."""
    things = sorted({thing for lot in lots for thing in lot})
    found = []
    for many in range(len(things) + 1):
        for some in combinations(things, many):
            if all(set(some) & set(lot) for lot in lots) and not any(set(less) <= set(some) for less in found):
                found.append(some)
    return tuple(sorted(found))


class TestBlockers(unittest.TestCase):
    def test_example(self):
        self.assertEqual(least_blockers(((1, 2), (1, 3), (2, 3))), ((1, 2), (1, 3), (2, 3)))

    def test_edges(self):
        self.assertEqual(least_blockers(()), ((),))
        self.assertEqual(least_blockers(((),)), ())
        self.assertEqual(least_blockers(((), (1,))), ())
        self.assertEqual(least_blockers(((1,), ())), ())
        self.assertEqual(least_blockers(((3,),)), ((3,),))
        self.assertEqual(least_blockers(((0,), (0,), (0, 1))), ((0,),))
        self.assertEqual(least_blockers(((2, 5), (2,), (5,))), ((2, 5),))
        self.assertEqual(least_blockers(lots=((0, 1), (2, 3))), ((0, 2), (0, 3), (1, 2), (1, 3)))
        self.assertEqual(least_blockers(((10 ** 30,), (7, 10 ** 30))), ((10 ** 30,),))

    def test_drawn(self):
        for rng in drawn(300, 5):
            lots = tuple(
                tuple(sorted(rng.sample((0, 1, 8, 17, 24, 40, 10 ** 6), rng.randint(rng.choice((0, 1, 1, 1)), 4))))
                for _ in range(rng.randint(0, 6)))
            self.assertEqual(least_blockers(lots), plain_blockers(lots))

    def test_twice(self):
        for rng in drawn(200, 6):
            lots = {tuple(sorted(rng.sample(range(7), rng.randint(1, 5)))) for _ in range(rng.randint(0, 6))}
            free = tuple(sorted(lot for lot in lots if not any(set(less) < set(lot) for less in lots)))
            self.assertEqual(least_blockers(least_blockers(free)), free)

    def test_many(self):
        pairs = tuple((2 * at, 2 * at + 1) for at in range(13))
        blockers = least_blockers(pairs)
        self.assertEqual(len(blockers), 2 ** 13)
        self.assertEqual(list(blockers), sorted(blockers))
        triples = tuple((3 * at, 3 * at + 1, 3 * at + 2) for at in range(6))
        self.assertEqual(least_blockers(least_blockers(triples)), triples)


if __name__ == "__main__":
    unittest.main()
