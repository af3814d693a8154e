"""Point 90: windows."""

import unittest

from allworlds.chains import Chain, filtered_shares, foretold_shares, smoothed_shares
from allworlds.courses import best_courses
from allworlds.errors import InvalidNumber, Refused
from allworlds.windows import Window
from tests.drawn import NO_INTEGERS, NO_TUPLES, Odd, drawn, nest
from tests.test_chains import CHAIN, HALF, SURE, draw_chain


class TestWindow(unittest.TestCase):
    def wrong(self, word, told, *values):
        with self.assertRaises(InvalidNumber) as caught:
            told(*values)
        self.assertEqual(caught.exception.word, word)

    def refused(self, word, told, *values):
        with self.assertRaises(Refused) as caught:
            told(*values)
        self.assertEqual(caught.exception.word, word)

    def test_size(self):
        window = Window(chain=CHAIN, size=60)
        self.assertEqual((window.chain, window.size), (CHAIN, 60))
        Window(CHAIN, 1)
        for value in NO_INTEGERS + NO_TUPLES + (0, -1, 61, 10 ** 400, (1,), nest(100000)):
            if not (type(value) is int and 1 <= value <= 60):
                self.wrong("size", Window, CHAIN, value)

    def test_no_moment(self):
        window = Window(CHAIN, 3)
        for _ in range(2):
            self.assertEqual(window.moments(), 0)
            self.refused("moments", window.now)
            self.refused("moments", window.tail)
            for value in (0, 1, -1, None, True, Odd()):
                self.refused("moments", window.ago, value)
                self.refused("moments", window.ahead, value)
            self.wrong("sign", window.come, 2)

    def test_wrong_numbers(self):
        window = Window(CHAIN, 2)
        window.come(0)
        for value in NO_INTEGERS + (-1, 1, 2, 10 ** 400):
            self.wrong("moments", window.ago, value)
        window.come(sign=None)
        window.come(1)
        self.assertEqual(window.ago(moments=1), smoothed_shares(CHAIN, (0, None, 1), 1))
        for value in NO_INTEGERS + (-1, 2, 3, 10 ** 400):
            self.wrong("moments", window.ago, value)
        for value in NO_INTEGERS + (-1,):
            self.wrong("ahead", window.ahead, value)
        self.assertEqual(window.ahead(moments=0), window.now())

    def test_signs(self):
        window = Window(SURE, 2)
        for value in [item for item in NO_INTEGERS if item is not None] + [2, -1, 10 ** 400, Odd()]:
            self.wrong("sign", window.come, value)
            self.assertEqual(window.moments(), 0)
        self.refused("barred", window.come, 1)
        self.assertEqual(window.moments(), 0)
        self.assertIsNone(window.come(0))
        before = (window.moments(), window.now(), window.tail(), window.ago(0))
        for _ in range(3):
            self.refused("barred", window.come, 1)
            self.wrong("sign", window.come, True)
            self.assertEqual((window.moments(), window.now(), window.tail(), window.ago(0)), before)
        window.come(None)
        self.assertEqual((window.moments(), window.now(), window.tail()), (2, ((1, 1), (0, 1)), (0, 0)))

    def test_drawn(self):
        full = barred = 0
        for rng in drawn(120, 120):
            chain = draw_chain(rng)
            size = rng.randint(1, 4)
            window = Window(chain, size)
            seen = ()
            for _ in range(rng.randint(1, 9)):
                sign = rng.choice((None,) + tuple(range(len(chain.shows[0]))))
                if not best_courses(chain, seen + (sign,), 1):
                    self.refused("barred", window.come, sign)
                    barred += 1
                else:
                    seen += (sign,)
                    window.come(sign)
                self.assertEqual(window.moments(), len(seen))
                if not seen:
                    continue
                kept = min(size, len(seen))
                full += len(seen) > size
                self.assertEqual(window.now(), filtered_shares(chain, seen))
                for moments in range(kept):
                    self.assertEqual(window.ago(moments), smoothed_shares(chain, seen, len(seen) - 1 - moments))
                self.wrong("moments", window.ago, kept)
                for ahead in (0, 1, 3):
                    self.assertEqual(window.ahead(ahead), foretold_shares(chain, seen, ahead))
                self.assertEqual(window.tail(), best_courses(chain, seen, 1)[0][1][-kept:])
        self.assertGreater(full, 100)
        self.assertGreater(barred, 5)

    def test_equal_courses(self):
        # The best courses are equal in share; the first one is told by cases that are kept no more.
        steps = (((0, 1), (0, 1), (1, 2), (1, 2)), ((0, 1), (0, 1), (1, 2), (1, 2)),
                 ((1, 2), (1, 2), (0, 1), (0, 1)), ((1, 2), (1, 2), (0, 1), (0, 1)))
        chain = Chain(((1, 4),) * 4, steps, (HALF,) * 4)
        for size in (1, 2, 3):
            window = Window(chain, size)
            for many in range(1, 7):
                window.come(0)
                self.assertEqual(window.tail(), best_courses(chain, (0,) * many, 1)[0][1][-size:])
        crossed = Chain(HALF, (((0, 1), (1, 1)), ((1, 1), (0, 1))), (HALF, HALF))
        window = Window(crossed, 1)
        for many in range(1, 6):
            window.come(None)
            self.assertEqual(window.tail(), best_courses(crossed, (None,) * many, 1)[0][1][-1:])

    def test_sixty_and_more(self):
        window = Window(CHAIN, 60)
        seen = tuple((at * at // 3) % 2 for at in range(60))
        for sign in seen:
            window.come(sign)
        self.assertEqual(window.ago(59), smoothed_shares(CHAIN, seen, 0))
        self.assertEqual(window.tail(), best_courses(CHAIN, seen, 1)[0][1])
        self.assertEqual(window.ahead(60), foretold_shares(CHAIN, seen, 60))
        for sign in seen:
            window.come(sign)
        seen = seen + seen
        self.assertEqual(window.moments(), 120)
        self.assertEqual(window.now(), filtered_shares(CHAIN, seen))
        self.assertEqual(window.ago(59), smoothed_shares(CHAIN, seen, 60))
        self.assertEqual(window.tail(), best_courses(CHAIN, seen, 1)[0][1][60:])
        self.wrong("moments", window.ago, 60)

    def test_two_windows(self):
        one, other = Window(CHAIN, 2), Window(CHAIN, 2)
        one.come(0)
        self.assertEqual((one.moments(), other.moments()), (1, 0))
        other.come(1)
        self.assertNotEqual(one.now(), other.now())


if __name__ == "__main__":
    unittest.main()
