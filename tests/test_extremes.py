"""Point 27: greatest and least entries."""

import unittest
from itertools import product

from allworlds.extremes import (
    behind_greatest, greatest_filling, greatest_out, least_filling, least_out, ranked_fillings,
)
from allworlds.numbers import is_less
from allworlds.sums import added_tables, product_of
from allworlds.tables import Table, one_table
from tests.drawn import drawn, plain
from tests.test_sums import COUNTS, TableCase, draw_from_zero
from tests.test_tables import draw_table, entries_by_filling

FLAT = Table((0, 1), (2, 2), ((1, 2), (1, 2), (1, 3), (1, 2)))


class TestExtremes(TableCase):
    def test_out(self):
        for rng in drawn(100, 150):
            table = draw_table(rng)
            things = tuple(rng.randrange(8) for _ in range(rng.randint(0, 5)))
            kept = [thing for thing in table.things if thing not in things]
            found = {}
            for filling, entry in entries_by_filling(table).items():
                key = tuple(case for thing, case in zip(table.things, filling) if thing in kept)
                found.setdefault(key, []).append(entry)
            for told, best in ((greatest_out, max), (least_out, min)):
                out = told(table, things)
                self.is_over(out, kept)
                self.assertEqual([plain(item) for item in out.entries], [best(found[key]) for key in sorted(found)])
                one_by_one = table
                for thing in rng.sample(things, len(things)):
                    one_by_one = told(one_by_one, (thing,))
                self.assertEqual(one_by_one, out)

    def test_edges(self):
        below = Table((3,), (3,), ((-1, 2), (-1, 3), (-5, 1)))
        self.assertEqual(greatest_out(table=below, things=(3, 3, 1)), Table((), (), ((-1, 3),)))
        self.assertEqual(least_out(table=below, things=(3,)), Table((), (), ((-5, 1),)))
        for told in (greatest_out, least_out):
            self.assertEqual(told(below, ()), below)
            self.assertEqual(told(below, (1, 2)), below)
            self.assertEqual(told(one_table(), (0,)), one_table())
        self.assertEqual(greatest_filling(table=one_table()), ((1, 1), ()))
        self.assertEqual(least_filling(table=one_table()), ((1, 1), ()))
        self.assertEqual(ranked_fillings(table=one_table()), (((1, 1), ()),))
        self.assertEqual(behind_greatest(table=one_table(), things=(), filling=()), ())

    def test_equal_entries(self):
        self.assertEqual(greatest_filling(FLAT), ((1, 2), (0, 0)))
        self.assertEqual(least_filling(Table((0, 1), (2, 2), ((1, 2), (1, 3), (1, 3), (1, 2)))), ((1, 3), (0, 1)))
        self.assertEqual(behind_greatest(FLAT, (0, 1), ()), (0, 0))
        self.assertEqual(behind_greatest(FLAT, (0,), (1,)), (0,))
        self.assertEqual(behind_greatest(FLAT, (1,), (1,)), (1,))
        self.assertEqual(behind_greatest(FLAT, (1, 0, 1, 7), ()), (0, 0))
        self.assertEqual(behind_greatest(FLAT, (7,), (1, 0)), ())
        self.assertEqual(ranked_fillings(FLAT), (
            ((1, 2), (0, 0)), ((1, 2), (0, 1)), ((1, 2), (1, 1)), ((1, 3), (1, 0))))

    def test_fillings(self):
        for rng in drawn(100, 151):
            table = draw_table(rng)
            entries = entries_by_filling(table)
            ranked = sorted([(-entry, filling) for filling, entry in entries.items()])
            told = ranked_fillings(table)
            self.assertIs(type(told), tuple)
            self.assertEqual([(-plain(entry), filling) for entry, filling in told], ranked)
            entry, filling = greatest_filling(table)
            self.assertEqual((-plain(entry), filling), ranked[0])
            entry, filling = least_filling(table)
            self.assertEqual((plain(entry), filling), min([(value, at) for at, value in entries.items()]))

    def test_close_entries(self):
        table = Table((0,), (4,), ((499999, 999999), (500000, 999999), (500000, 1000001), (500001, 1000001)))
        self.assertEqual([filling for _, filling in ranked_fillings(table)], [(1,), (3,), (2,), (0,)])
        self.assertTrue(is_less(table.entries[3], table.entries[1]))

    def test_behind(self):
        for rng in drawn(100, 152):
            table = draw_table(rng)
            things = tuple(rng.randrange(7) for _ in range(rng.randint(0, 4)))
            inner = [thing for thing in table.things if thing in things]
            outer = [thing for thing in table.things if thing not in things]
            entries = entries_by_filling(table)
            for filling in product(*[range(COUNTS[thing]) for thing in outer]):
                told = []
                for inside in product(*[range(COUNTS[thing]) for thing in inner]):
                    cases = dict(zip(outer + inner, filling + inside))
                    told.append((-entries[tuple(cases[thing] for thing in table.things)], inside))
                self.assertEqual(behind_greatest(table, things, filling), min(told)[1])

    def test_products_and_sums(self):
        tried = 0
        for rng in drawn(150, 153):
            one, other = draw_from_zero(rng), draw_table(rng)
            things = tuple(thing for thing in other.things if thing not in one.things)
            tried += bool(things)
            # What has no entry below 0 and not these things may be multiplied before or after.
            self.assertEqual(greatest_out(product_of((one, other)), things), product_of((one, greatest_out(other, things))))
            # Any table without these things may be added before or after.
            third = draw_table(rng)
            things = tuple(thing for thing in other.things if thing not in third.things)
            self.assertEqual(greatest_out(added_tables((third, other)), things), added_tables((third, greatest_out(other, things))))
            self.assertEqual(least_out(added_tables((third, other)), things), added_tables((third, least_out(other, things))))
            both = greatest_filling(added_tables((third, other)))[0]
            apart = plain(greatest_filling(third)[0]) + plain(greatest_filling(other)[0])
            self.assertLessEqual(plain(both), apart)
        self.assertGreater(tried, 50)

    def test_many_entries(self):
        count = 20000
        table = Table((0,), (count,), tuple((k * 7919 % count, 1) for k in range(count)))
        ranked = ranked_fillings(table)
        self.assertEqual([entry for entry, _ in ranked], [(k, 1) for k in reversed(range(count))])
        self.assertEqual(greatest_filling(table)[1], ranked[0][1])


if __name__ == "__main__":
    unittest.main()
