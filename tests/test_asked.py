"""How the things of a question are left out: with few fillings."""

import unittest

from allworlds.asked import easy_sequence
from allworlds.sequences import cost_by, greedy_sequence, is_sequence
from allworlds.widths import free_first, least_width
from tests.drawn import drawn


def draw_scopes(rng, many):
    """Ties between things, each with a few others."""
    pairs = {tuple(sorted(rng.sample(range(many), 2))) for _ in range(rng.randint(many, 2 * many + 4))}
    return tuple(sorted(pairs))


class TestEasySequence(unittest.TestCase):
    def test_drawn(self):
        better = large = 0
        for rng in drawn(400, 210):
            many = rng.randint(9, 12)
            scopes = draw_scopes(rng, many)
            counts = tuple(rng.randint(4, 12) for _ in range(many))
            lot = tuple(range(many))
            greedy = greedy_sequence(counts, scopes, lot)
            if cost_by(counts, scopes, greedy, "greatest") <= 20000:
                self.assertEqual(easy_sequence(counts, [("plain", scope) for scope in scopes], lot), greedy)
                continue
            if many - len(free_first(scopes, lot)) > 10:
                self.assertEqual(easy_sequence(counts, [("plain", scope) for scope in scopes], lot), greedy)
                large += 1
                continue
            if large + better > 12:
                continue
            told = easy_sequence(counts, [("plain", scope) for scope in scopes], lot)
            self.assertTrue(is_sequence(lot, told))
            width = cost_by(counts, scopes, told, "greatest")
            self.assertEqual(width, least_width(counts, scopes, lot))
            better += width < cost_by(counts, scopes, greedy, "greatest")
        self.assertGreater(better, 0)
        self.assertGreater(large, 0)


if __name__ == "__main__":
    unittest.main()
