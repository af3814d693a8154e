"""How the things of a question are left out: with few fillings, and for all lots of told things at once."""

import unittest
from itertools import combinations
from unittest.mock import patch

from allworlds.asked import Asked, easy_sequence, lots_with
from allworlds.fillings import filling_number, fillings_of
from allworlds.nets import counts_of
from allworlds.reader import read_net
from allworlds.reasons import answer_of, is_reason, least_reasons, smaller_reason
from allworlds.sequences import cost_by, greedy_sequence, is_sequence
from allworlds.turns import is_turning_lot, least_turns, stand_count
from allworlds.wholes import aligned, summed_tables, table_at, whole_tables
from allworlds.widths import free_first, least_width
from tests.drawn import draw_net, drawn
from tests.questions import draw_asked, least_of_lots, lots_of, plain_reasons
from tests.test_reasons import votes


def draw_scopes(rng, many):
    """Ties between things, each with a few others."""
    pairs = {tuple(sorted(rng.sample(range(many), 2))) for _ in range(rng.randint(many, 2 * many + 4))}
    return tuple(sorted(pairs))


class TestEasySequence(unittest.TestCase):
    def test_drawn(self):
        better = large = 0
        for rng in drawn(400, 210):
            many = rng.randint(9, 12)
            scopes = draw_scopes(rng, many)
            counts = tuple(rng.randint(4, 12) for _ in range(many))
            lot = tuple(range(many))
            greedy = greedy_sequence(counts, scopes, lot)
            if cost_by(counts, scopes, greedy, "greatest") <= 20000:
                self.assertEqual(easy_sequence(counts, scopes, lot), greedy)
                continue
            if many - len(free_first(scopes, lot)) > 10:
                self.assertEqual(easy_sequence(counts, scopes, lot), greedy)
                large += 1
                continue
            if large + better > 12:
                continue
            told = easy_sequence(counts, scopes, lot)
            self.assertTrue(is_sequence(lot, told))
            width = cost_by(counts, scopes, told, "greatest")
            self.assertEqual(width, least_width(counts, scopes, lot))
            better += width < cost_by(counts, scopes, greedy, "greatest")
        self.assertGreater(better, 0)
        self.assertGreater(large, 0)


class TestTenFindings(unittest.TestCase):
    """Ten things that each tell of another one."""

    def setUp(self):
        lines = ["it 2: 1/2 1/2"] + [f"sign{sign} 2 of it: 3/4 1/4, 1/4 3/4" for sign in "abcdefghij"]
        self.net = read_net("\n".join(lines))
        self.found = tuple((thing, 0) for thing in range(1, 11))
        self.told = tuple(range(1, 11))

    def test_all_needed(self):
        question = (("is", 0, (0,)), (59049, 59050), self.found)
        self.assertIs(answer_of(self.net, question), True)
        self.assertEqual(least_turns(self.net, question), tuple((thing,) for thing in self.told))
        self.assertEqual(least_reasons(self.net, question), (self.told,))

    def test_half(self):
        # Five changed findings leave the share at the bar, six turn the answer.
        question = (("is", 0, (0,)), (1, 2), self.found)
        self.assertEqual(least_turns(self.net, question), tuple(combinations(self.told, 6)))
        self.assertEqual(least_reasons(self.net, question), tuple(combinations(self.told, 5)))
        self.assertEqual(stand_count(self.net, question), 5)

    def test_no(self):
        question = (("is", 0, (1,)), (1, 2), self.found)
        self.assertEqual(least_turns(self.net, question), tuple(combinations(self.told, 5)))
        self.assertEqual(least_reasons(self.net, question), tuple(combinations(self.told, 6)))

    def test_nothing_turns(self):
        question = (("is", 0, (0, 1)), (1, 2), self.found)
        self.assertEqual(least_turns(self.net, question), ())
        self.assertEqual(least_reasons(self.net, question), ((),))

    def test_more_between(self):
        # Each middle thing has two signs; those of more cases tell as much by their first one.
        lines = ["it 2: 1/2 1/2"] + [f"mid{mid} 2 of it: 1 0, 0 1" for mid in "abcde"]
        for at, sign in enumerate("abcdefghij"):
            mid = "abcde"[at // 2]
            rows = "3/4 1/4, 1/4 3/4" if at < 8 else "3/4 1/8 1/8, 1/4 3/8 3/8"
            lines.append(f"sign{sign} {2 if at < 8 else 3} of mid{mid}: {rows}")
        net = read_net("\n".join(lines))
        told = tuple(range(6, 16))
        found = tuple((thing, 0) for thing in told)
        question = (("is", 0, (0,)), (59049, 59050), found)
        self.assertEqual(least_turns(net, question), tuple((thing,) for thing in told))
        self.assertEqual(least_reasons(net, question), (told,))
        question = (question[0], (1, 2), found)
        self.assertEqual(least_turns(net, question), tuple(combinations(told, 6)))
        self.assertEqual(least_reasons(net, question), tuple(combinations(told, 5)))


class TestTogether(unittest.TestCase):
    def test_lots_with(self):
        for many in range(1, 7):
            for place in range(many):
                bits = lots_with(place, many)
                self.assertEqual([number for number in range(2 ** many + 1) if bits >> number & 1],
                                 [number for number in range(2 ** many) if number >> place & 1])

    def test_drawn(self):
        # Each lot alone is told as all lots together are.
        for rng in drawn(150, 211):
            net, question = draw_asked(rng)
            asked = Asked(net, question)
            reasons = plain_reasons(net, question)
            self.assertEqual(asked.least_reasons(), least_of_lots(reasons))
            for lot in lots_of(asked.told):
                alone = asked.turned_by(1, {thing: int(thing not in lot) for thing in asked.told})
                self.assertEqual((asked.has_reason(lot), alone), (lot in reasons, int(lot not in reasons)))

    def test_long_bottoms(self):
        # Where a bottom would be long, things are left out by fractions; nothing else changes.
        for rng in drawn(100, 213):
            net, question = draw_asked(rng)
            asked = Asked(net, question)
            with patch("allworlds.asked.MOST_BITS", 0):
                other = Asked(net, question)
            self.assertEqual((asked.answer, asked.turned_lots()), (other.answer, other.turned_lots()))
            for filling in fillings_of([asked.counts[thing] for thing in asked.told]):
                cases = dict(zip(asked.told, filling))
                self.assertEqual(asked.margin_at(cases), other.margin_at(cases))
            for lot in lots_of(asked.told):
                self.assertEqual(asked.margin_at(asked.found_at(lot)), other.margin_at(other.found_at(lot)))

    def test_many(self):
        # With so many findings each lot is looked at alone.
        net = votes(13)
        told = tuple(range(1, 14))
        question = (("is", 0, (0,)), (1, 2), tuple((thing, 0) for thing in told))
        self.assertEqual(smaller_reason(net, question, told), told[6:])
        self.assertIs(is_reason(net, question, told[:6]), False)
        self.assertIs(is_reason(net, question, told[:7]), True)
        self.assertIs(is_turning_lot(net, question, told[:6]), False)
        self.assertIs(is_turning_lot(net, question, told[:7]), True)
        self.assertEqual(stand_count(net, question), 6)


class TestWholes(unittest.TestCase):
    def test_aligned(self):
        counts = (2, 3, 2)
        one = [10 * number for number in range(6)]
        other = list(range(6))
        order, left, right = aligned(counts, (1, 0), one, ((2, 1), other))
        self.assertEqual(order, (1, 0, 2))
        for b, a, c in fillings_of((3, 2, 2)):
            place = filling_number((3, 2, 2), (b, a, c))
            self.assertEqual((left[place], right[place]), (one[2 * b + a], other[3 * c + b]))

    def test_tables(self):
        for rng in drawn(40, 212):
            net = draw_net(rng)
            tables, bottom = whole_tables(net)
            for thing in rng.sample(range(len(net.things)), len(net.things)):
                tables = summed_tables(counts_of(net), tables, thing)
            product = 1
            for order, entries in tables:
                self.assertEqual(order, ())
                product *= entries[0]
            self.assertEqual(product, bottom)

    def test_table_at(self):
        table = ((2, 0, 1), list(range(12)))
        self.assertEqual(table_at((2, 3, 2), table, {}), table)
        self.assertEqual(table_at((2, 3, 2), table, {0: 1, 5: 9}), ((2, 1), [3, 4, 5, 9, 10, 11]))
        self.assertEqual(table_at((2, 3, 2), table, {0: 1, 1: 2, 2: 0}), ((), [5]))


if __name__ == "__main__":
    unittest.main()
