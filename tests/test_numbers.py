"""Points 1 and 6: fractions."""

import unittest
from fractions import Fraction
from math import lcm

from allworlds import numbers
from allworlds.errors import InvalidNumber, Refused
from allworlds.numbers import (
    ONE, ZERO, added, common_bottom, divided, fraction_of, greatest_of, is_fraction, is_less, least_of, order_keys,
    product_of_all, scaled_to_one, taken, timed, total_of_all,
)
from tests.drawn import NO_INTEGERS, NO_TUPLES, drawn, nest, pair_of, plain


def draw_fraction(rng):
    return pair_of(Fraction(rng.randint(-9, 9), rng.randint(1, 12)))


class TestIsFraction(unittest.TestCase):
    def test_fractions(self):
        for value in ((0, 1), (1, 1), (-1, 1), (1, 2), (-7, 3), (10 ** 500, 3), (1, 10 ** 500)):
            self.assertIs(is_fraction(value), True)

    def test_no_fractions(self):
        wrong = [(0, 0), (1, 0), (2, 4), (0, 2), (0, 5), (1, -2), (-1, -2), (2, 2), (-2, 4), (), (1,), (1, 2, 3),
                 [1, 2], (1, [2]), ((1, 2), (1, 2)), nest(100000), (nest(100000), 1), (1, nest(100000))]
        for value in list(NO_TUPLES) + wrong:
            self.assertIs(is_fraction(value), False)
        for value in NO_INTEGERS:
            self.assertIs(is_fraction((value, 1)), False)
            self.assertIs(is_fraction((0, value)), False)

    def test_constants(self):
        self.assertEqual((ZERO, ONE), ((0, 1), (1, 1)))
        self.assertEqual((numbers.ZERO, numbers.ONE), ((0, 1), (1, 1)))


class TestReckoning(unittest.TestCase):
    def test_fraction_of(self):
        self.assertEqual(fraction_of(4, 6), (2, 3))
        self.assertEqual(fraction_of(4, -6), (-2, 3))
        self.assertEqual(fraction_of(-4, -6), (2, 3))
        self.assertEqual(fraction_of(0, -6), (0, 1))
        self.assertEqual(fraction_of(0, 6), (0, 1))
        self.assertEqual(fraction_of(top=5, bottom=1), (5, 1))
        for top in range(-6, 7):
            for bottom in range(-6, 7):
                if bottom:
                    self.assertEqual(fraction_of(top, bottom), pair_of(Fraction(top, bottom)))

    def test_two(self):
        for rng in drawn(200, 1):
            one, other = draw_fraction(rng), draw_fraction(rng)
            a, b = plain(one), plain(other)
            self.assertEqual(plain(added(one, other)), a + b)
            self.assertEqual(plain(taken(one, other)), a - b)
            self.assertEqual(plain(timed(one, other)), a * b)
            self.assertIs(is_less(one, other), a < b)
            if b:
                self.assertEqual(plain(divided(one, other)), a / b)

    def test_divisor_zero(self):
        for call in (lambda: fraction_of(0, 0), lambda: fraction_of(3, 0), lambda: divided((1, 2), (0, 1)),
                     lambda: divided(ZERO, ZERO)):
            with self.assertRaises(InvalidNumber) as caught:
                call()
            self.assertEqual(caught.exception.word, "zero")

    def test_many(self):
        for rng in drawn(100, 2):
            some = [draw_fraction(rng) for _ in range(rng.randint(0, 5))]
            total, product = Fraction(0), Fraction(1)
            for item in some:
                total += plain(item)
                product *= plain(item)
            for form in (some, tuple(some)):
                self.assertEqual(plain(total_of_all(form)), total)
                self.assertEqual(plain(product_of_all(form)), product)
                self.assertEqual(common_bottom(form), lcm(*[bottom for _, bottom in some]))

    def test_none(self):
        for form in ((), []):
            self.assertEqual((total_of_all(form), product_of_all(form), common_bottom(form)), ((0, 1), (1, 1), 1))

    def test_scaled(self):
        self.assertEqual(scaled_to_one(((1, 2), (1, 3), (0, 1))), ((3, 5), (2, 5), (0, 1)))
        self.assertEqual(scaled_to_one([(7, 3)]), ((1, 1),))
        for rng in drawn(100, 3):
            some = [pair_of(abs(plain(draw_fraction(rng)))) for _ in range(rng.randint(1, 5))]
            total = sum(plain(item) for item in some)
            if total:
                scaled = scaled_to_one(some)
                self.assertIs(type(scaled), tuple)
                self.assertEqual([plain(item) for item in scaled], [plain(item) / total for item in some])
        for barred in ((), [], (ZERO,), (ZERO, ZERO), [ZERO]):
            with self.assertRaises(Refused) as caught:
                scaled_to_one(barred)
            self.assertEqual(caught.exception.word, "barred")

    def test_order_keys(self):
        close = [(999999, 1000000), (999998, 999999), (-1, 10 ** 6), (0, 1), (1, 10 ** 6), (1, 1), (10 ** 50, 1)]
        for rng in drawn(60, 4):
            some = [draw_fraction(rng) for _ in range(rng.randint(0, 8))] + rng.sample(close, rng.randint(0, 7))
            keys = order_keys(some)
            if some:
                self.assertEqual(plain(greatest_of(some)), max(plain(item) for item in some))
                self.assertEqual(plain(least_of(tuple(some))), min(plain(item) for item in some))
            for one, key in zip(some, keys, strict=True):
                for other, beside in zip(some, keys):
                    self.assertEqual((key < beside, key == beside), (plain(one) < plain(other), one == other))

    def test_arguments_stay(self):
        some = [(1, 2), (1, 3)]
        for function in (total_of_all, product_of_all, common_bottom, scaled_to_one):
            function(some)
            self.assertEqual(some, [(1, 2), (1, 3)])


if __name__ == "__main__":
    unittest.main()
