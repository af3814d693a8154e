"""Points 25, 26 and 28: products, sums, cuts and quotients of tables."""

import unittest
from fractions import Fraction
from itertools import product

from allworlds.errors import InvalidNumber, Refused
from allworlds.sums import (
    added_tables, at_case, at_cases, product_of, quotient_of, scaled_table, shares_table, shares_within, summed_out,
    summed_to, total_of, widened,
)
from allworlds.tables import Table, is_table, one_table
from tests.drawn import draw_lot, drawn, pair_of, plain
from tests.test_tables import draw_table, value_in

COUNTS = (2, 3, 2, 2, 3)
ONE = Table((0,), (2,), ((1, 4), (3, 4)))
TWO = Table((0, 1), (2, 2), ((2, 3), (1, 3), (1, 6), (5, 6)))


def all_cases():
    """All fillings of the five things of drawn tables."""
    return list(product(*[range(count) for count in COUNTS]))


def draw_from_zero(rng, zeros=True):
    """A table without entries below 0."""
    return draw_table(rng, low=0 if zeros else 1)


def plain_sum(table, gone):
    """The sums over some things, by the cases of all five things."""
    sums = {}
    kept = [thing for thing in table.things if thing not in gone]
    fillings = product(*[range(count) for count in table.counts])
    for filling, entry in zip(fillings, table.entries):
        key = tuple(case for thing, case in zip(table.things, filling) if thing in kept)
        sums[key] = sums.get(key, 0) + plain(entry)
    return tuple(kept), sums


class TableCase(unittest.TestCase):
    """What all tests of tables need."""

    def refused(self, word, told, *values):
        with self.assertRaises(Refused) as caught:
            told(*values)
        self.assertEqual(caught.exception.word, word)

    def is_over(self, table, things):
        self.assertTrue(is_table(table))
        self.assertEqual(table.things, tuple(sorted(things)))
        self.assertEqual(table.counts, tuple(COUNTS[thing] for thing in table.things))


class TestProducts(TableCase):
    def test_example(self):
        both = product_of((TWO, ONE))
        self.assertEqual(both.entries, ((1, 6), (1, 12), (1, 8), (5, 8)))
        self.assertEqual(summed_out(both, (0,)).entries, ((7, 24), (17, 24)))
        self.assertEqual(shares_within(both, (0,)).entries, ((4, 7), (2, 17), (3, 7), (15, 17)))

    def test_none(self):
        for none in ((), []):
            self.assertEqual(product_of(none), one_table())
            self.assertEqual(added_tables(none), Table((), (), ((0, 1),)))
        self.assertEqual(product_of(tables=(one_table(), one_table())), one_table())
        self.assertEqual(added_tables(tables=[one_table(), one_table()]), Table((), (), ((2, 1),)))
        self.assertEqual(product_of([TWO]), TWO)
        self.assertEqual(added_tables([TWO]), TWO)

    def test_drawn(self):
        for rng in drawn(80, 130):
            tables = [draw_table(rng) for _ in range(rng.randint(0, 4))]
            things = {thing for table in tables for thing in table.things}
            times, plus = product_of(tables), added_tables(tuple(tables))
            self.is_over(times, things)
            self.is_over(plus, things)
            for cases in all_cases():
                values = [value_in(table, cases) for table in tables]
                due = Fraction(1)
                for value in values:
                    due *= value
                self.assertEqual(value_in(times, cases), due)
                self.assertEqual(value_in(plus, cases), sum(values))
            mixed = rng.sample(tables, len(tables))
            at = rng.randint(0, len(mixed))
            for told in (product_of, added_tables):
                whole = told(tables)
                self.assertEqual(told(mixed), whole)
                self.assertEqual(told([told(mixed[:at]), told(mixed[at:])]), whole)

    def test_counts(self):
        three = Table((0,), (3,), ((1, 1),) * 3)
        for tables in ((ONE, three), [TWO, one_table(), three], (three, TWO), (Table((4,), (1,), ((1, 1),)), ONE, three)):
            self.refused("counts", product_of, tables)
            self.refused("counts", added_tables, tables)

    def test_widened(self):
        wide = widened(ONE, (0, 1), (2, 3))
        self.assertEqual(wide, Table((0, 1), (2, 3), ((1, 4),) * 3 + ((3, 4),) * 3))
        self.assertEqual(widened(table=ONE, things=(0,), counts=(2,)), ONE)
        self.assertEqual(widened(one_table(), (), ()), one_table())
        self.assertEqual(widened(one_table(), (3,), (2,)), Table((3,), (2,), ((1, 1),) * 2))
        for rng in drawn(40, 131):
            table = draw_table(rng)
            things = tuple(sorted(set(table.things + draw_lot(rng, 5))))
            wide = widened(table, things, tuple(COUNTS[thing] for thing in things))
            self.is_over(wide, things)
            for cases in all_cases():
                self.assertEqual(value_in(wide, cases), value_in(table, cases))

    def test_scaled(self):
        self.assertEqual(scaled_table(ONE, (2, 1)).entries, ((1, 2), (3, 2)))
        self.assertEqual(scaled_table(table=ONE, factor=(0, 1)).entries, ((0, 1), (0, 1)))
        for rng in drawn(20, 132):
            table, factor = draw_table(rng), Fraction(rng.randint(-4, 4), rng.randint(1, 4))
            scaled = scaled_table(table, pair_of(factor))
            self.is_over(scaled, table.things)
            self.assertEqual([plain(item) for item in scaled.entries], [plain(item) * factor for item in table.entries])


class TestSums(TableCase):
    def test_drawn(self):
        for rng in drawn(100, 133):
            table = draw_table(rng)
            things = [rng.randrange(8) for _ in range(rng.randint(0, 6))]
            kept, sums = plain_sum(table, things)
            for told in (tuple(things), tuple(sorted(things)), tuple(sorted(set(things)))):
                out = summed_out(table, told)
                self.is_over(out, kept)
                self.assertEqual([plain(item) for item in out.entries], [sums[key] for key in sorted(sums)])
            kept, sums = plain_sum(table, [thing for thing in table.things if thing not in things])
            to = summed_to(table, tuple(things))
            self.is_over(to, kept)
            self.assertEqual([plain(item) for item in to.entries], [sums[key] for key in sorted(sums)])
            self.assertEqual(plain(total_of(table)), sum(plain(item) for item in table.entries))

    def test_edges(self):
        self.assertEqual(summed_out(table=TWO, things=()), TWO)
        self.assertEqual(summed_out(TWO, (7, 9, 7)), TWO)
        self.assertEqual(summed_out(TWO, (0, 0, 1, 5)), Table((), (), ((2, 1),)))
        self.assertEqual(summed_to(table=TWO, things=()), Table((), (), ((2, 1),)))
        self.assertEqual(summed_to(TWO, (1, 9, 0, 1)), TWO)
        self.assertEqual(summed_out(one_table(), (0,)), one_table())
        self.assertEqual(total_of(table=TWO), (2, 1))
        self.assertEqual(total_of(one_table()), (1, 1))
        self.assertEqual(summed_out(Table((2,), (1,), ((-5, 3),)), (2,)), Table((), (), ((-5, 3),)))

    def test_any_sequence(self):
        for rng in drawn(50, 134):
            table = draw_table(rng)
            things = tuple(rng.sample(range(6), rng.randint(0, 5)))
            one_by_one = table
            for thing in things:
                one_by_one = summed_out(one_by_one, (thing,))
            self.assertEqual(one_by_one, summed_out(table, things))

    def test_sums_before_products(self):
        tried = 0
        for rng in drawn(120, 135):
            one, other = draw_table(rng), draw_table(rng)
            things = tuple(thing for thing in other.things if thing not in one.things)
            self.assertEqual(summed_out(product_of((one, other)), things), product_of((one, summed_out(other, things))))
            tried += bool(things)
        self.assertGreater(tried, 50)

    def test_no_other_table_can_take_the_place(self):
        tried = 0
        for rng in drawn(100, 136):
            table = draw_table(rng)
            for thing in table.things:
                rest = tuple(other for other in table.things if other != thing)
                counts = tuple(COUNTS[other] for other in rest)
                # Tables with a single entry 1 ask of a table without the thing to have both entries.
                for filling in product(*[range(count) for count in counts]):
                    due = set()
                    for case in range(COUNTS[thing]):
                        mark = Table((thing,), (COUNTS[thing],), tuple((int(at == case), 1) for at in range(COUNTS[thing])))
                        self.assertEqual(total_of(mark), (1, 1))
                        out = summed_out(product_of((table, mark)), (thing,))
                        cases = [0] * 5
                        for other, at in zip(rest, filling):
                            cases[other] = at
                        due.add(value_in(out, cases))
                        cases[thing] = case
                        self.assertIn(value_in(table, cases), due)
                    unlike = {value_in(table, [dict(zip(rest, filling)).get(at, case) for at in range(5)])
                              for case in range(COUNTS[thing])}
                    self.assertEqual(len(due) > 1, len(unlike) > 1)
                    tried += len(unlike) > 1
        self.assertGreater(tried, 100)


class TestCuts(TableCase):
    def test_at_case(self):
        self.assertEqual(at_case(TWO, 0, 1), Table((1,), (2,), ((1, 6), (5, 6))))
        self.assertEqual(at_case(table=TWO, thing=1, case=0), Table((0,), (2,), ((2, 3), (1, 6))))
        self.assertEqual(at_case(TWO, 7, 3), TWO)
        self.assertEqual(at_case(one_table(), 0, 0), one_table())
        self.assertEqual(at_case(ONE, 0, 1), Table((), (), ((3, 4),)))
        for rng in drawn(40, 137):
            table = draw_table(rng)
            for thing in range(5):
                for case in range(COUNTS[thing]):
                    cut = at_case(table, thing, case)
                    self.is_over(cut, [other for other in table.things if other != thing])
                    for cases in all_cases():
                        if cases[thing] == case:
                            self.assertEqual(value_in(cut, cases), value_in(table, cases))
            fixed = {thing: rng.randrange(COUNTS[thing]) for thing in rng.sample(range(5), 3)}
            one_by_one = table
            for thing, case in fixed.items():
                one_by_one = at_case(one_by_one, thing, case)
            self.assertEqual(at_cases(table, fixed), one_by_one)

    def test_quotient(self):
        barred = 0
        for rng in drawn(200, 138):
            one, other = draw_table(rng), draw_table(rng)
            if not set(other.things) <= set(one.things):
                self.refused("things", quotient_of, one, other)
                continue
            wrong = any(value_in(other, cases) == 0 and value_in(one, cases) for cases in all_cases())
            if wrong:
                self.refused("zero", quotient_of, one, other)
                barred += 1
                continue
            told = quotient_of(one, other)
            self.is_over(told, one.things)
            for cases in all_cases():
                divisor = value_in(other, cases)
                self.assertEqual(value_in(told, cases), value_in(one, cases) / divisor if divisor else 0)
            self.assertEqual(product_of((told, other)), one)
        self.assertGreater(barred, 10)

    def test_quotient_refused(self):
        three = Table((0,), (3,), ((0, 1),) * 3)
        none = Table((0,), (2,), ((0, 1),) * 2)
        self.refused("things", quotient_of, ONE, TWO)
        self.refused("things", quotient_of, three, TWO)
        self.refused("counts", quotient_of, TWO, three)
        self.refused("counts", quotient_of, ONE, three)
        self.refused("zero", quotient_of, ONE, none)
        self.refused("zero", quotient_of, TWO, Table((), (), ((0, 1),)))
        self.assertEqual(quotient_of(none, none), none)
        self.assertEqual(quotient_of(one=none, other=ONE), none)
        self.assertEqual(quotient_of(ONE, one_table()), ONE)
        self.assertEqual(quotient_of(Table((0,), (2,), ((-1, 2), (0, 1))), Table((0,), (2,), ((1, 4), (0, 1)))).entries,
                         ((-2, 1), (0, 1)))
        with self.assertRaises(Refused):
            try:
                quotient_of(ONE, none)
            except InvalidNumber:
                self.fail("a number is named")

    def test_shares_within(self):
        for rng in drawn(80, 139):
            table = draw_from_zero(rng)
            things = tuple(rng.randrange(6) for _ in range(rng.randint(0, 3)))
            told = shares_within(table, things)
            self.is_over(told, table.things)
            _, sums = plain_sum(table, things)
            for cases in all_cases():
                key = tuple(cases[thing] for thing in table.things if thing not in things)
                self.assertEqual(value_in(told, cases), value_in(table, cases) / sums[key] if sums[key] else 0)
            ones = summed_out(told, things)
            self.assertTrue(set(ones.entries) <= {(0, 1), (1, 1)})
        self.assertEqual(shares_within(table=ONE, things=()).entries, ((1, 1), (1, 1)))
        self.assertEqual(shares_within(ONE, (0, 0, 3)).entries, ((1, 4), (3, 4)))

    def test_shares_table(self):
        for rng in drawn(60, 140):
            table = draw_from_zero(rng)
            total = plain(total_of(table))
            if total:
                told = shares_table(table)
                self.is_over(told, table.things)
                self.assertEqual([plain(item) for item in told.entries], [plain(item) / total for item in table.entries])
        self.refused("barred", shares_table, Table((0,), (2,), ((0, 1),) * 2))
        self.refused("barred", shares_table, Table((), (), ((0, 1),)))
        self.assertEqual(shares_table(table=Table((), (), ((5, 3),))), one_table())

    def test_arguments_stay(self):
        tables = [TWO, ONE]
        product_of(tables)
        added_tables(tables)
        self.assertEqual(tables, [TWO, ONE])


if __name__ == "__main__":
    unittest.main()
