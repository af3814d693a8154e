"""Point 7: fillings."""

import unittest
from itertools import product

from allworlds.fillings import at_places, fill_count, filling_at, filling_number, fillings_of, places_by, steps_by


class TestFillings(unittest.TestCase):
    def test_all(self):
        for counts in ((), (1,), (2,), (1, 1), (2, 3), (3, 1, 2), (2, 2, 2, 2), (6, 5, 4)):
            told = tuple(product(*[range(count) for count in counts]))
            for form in (counts, list(counts)):
                self.assertEqual(fillings_of(form), told)
                self.assertEqual(fill_count(form), len(told))
                for number, filling in enumerate(told):
                    self.assertEqual(filling_number(form, filling), number)
                    self.assertEqual(filling_at(form, number), filling)
                self.assertEqual(form, type(form)(counts))

    def test_ascending(self):
        fillings = fillings_of((3, 2, 3))
        self.assertEqual(list(fillings), sorted(fillings))

    def test_none(self):
        self.assertEqual((fillings_of(()), fill_count(()), filling_number((), ()), filling_at((), 0)), (((),), 1, 0, ()))

    def test_many(self):
        counts = (6,) * 24
        self.assertEqual(fill_count(counts), 6 ** 24)
        self.assertEqual(filling_at(counts, 6 ** 24 - 1), (5,) * 24)
        self.assertEqual(filling_number(counts, (5,) * 24), 6 ** 24 - 1)

    def test_places(self):
        self.assertEqual(at_places((5, 6, 7), (2, 0)), (7, 5))
        self.assertEqual(at_places((5, 6, 7), [1, 1]), (6, 6))
        self.assertEqual(at_places((5, 6, 7), ()), ())
        self.assertEqual(at_places(filling=(), places=[]), ())

    def test_places_by(self):
        things, counts = (4, 1, 7), (2, 3, 2)
        for lot in ((), (1,), (1, 4), (4, 7), (1, 4, 7)):
            own = [counts[things.index(thing)] for thing in lot]
            told = [
                filling_number(own, [filling[things.index(thing)] for thing in lot]) for filling in fillings_of(counts)]
            steps = steps_by(lot, own)
            self.assertEqual(places_by(things, counts, steps), told)
            self.assertEqual(places_by(things, counts, steps, 5), [place + 5 for place in told])
        self.assertEqual(places_by((), (), {}), [0])


if __name__ == "__main__":
    unittest.main()
