"""Points 71 and 72: starts, rims, and papers of the beginning of a ranking."""

import unittest
from fractions import Fraction
from itertools import product

from allworlds.bestpapers import BestPaper, bound_of_start, check_best_paper, is_best_paper
from allworlds.bounds import rims_of, start_of
from allworlds.errors import InvalidPaper
from allworlds.likely import best_paper
from allworlds.nets import Net, counts_of
from allworlds.placing import best_messages, line_of
from tests.cases import NO_WORLD, SURE, ErrorCase
from tests.drawn import NO_INTEGERS, NO_TUPLES, Odd, draw_net, draw_news, drawn, nest, pair_of, plain
from tests.ranking import as_told, draw_any_lot, draw_mixed, fillings_in, plain_messages, plain_ranking
from tests.test_placing import NET

LOT, SEQUENCE = (0, 1), (1, 0)
MESSAGES = best_messages(NET, (), LOT, SEQUENCE)
LISTING = (((2, 5), (0, 0)), ((3, 10), (1, 0)), ((3, 10), (1, 1)))
PAPER = BestPaper(LOT, SEQUENCE, MESSAGES, LISTING[:2])


def other(paper, **changed):
    """A paper with some attributes exchanged."""
    return BestPaper(**{**vars(paper), **changed})


def exchanged(items, at, item):
    """A tuple with another item at a place."""
    return items[:at] + (item,) + items[at + 1:]


def draw_paper(rng):
    """A net, news, a number and the paper by the exact messages."""
    net = draw_net(rng, rng.randint(1, 4))
    news = draw_news(rng, net)
    lot = draw_any_lot(rng, net)
    sequence = draw_mixed(rng, net, lot)
    many = rng.randint(1, 5)
    listing = tuple(plain_ranking(net, news, lot)[:many])
    return net, news, many, BestPaper(lot, sequence, best_messages(net, news, lot, sequence), listing)


def plain_rims(counts, line, starts):
    """The starts that no filling has, though one has all cases but the last one."""
    if not starts:
        return {()}
    every = [()] + [start for many in range(1, len(line) + 1)
                    for start in product(*[range(counts[thing]) for thing in line[:many]])]
    had = {start[:many] for start in starts for many in range(len(line) + 1)}
    return {start for start in every if start and start not in had and start[:-1] in had}


class JudgedCase(ErrorCase):
    def judged(self, net, news, many, value, at):
        """Ask what is first wrong with a paper."""
        self.assertIs(is_best_paper(net, news, many, value), at is None)
        if at is None:
            self.assertIsNone(check_best_paper(net, news, many, value))
        else:
            self.raised(InvalidPaper, at, check_best_paper, net, news, many, value)


class TestPapers(JudgedCase):
    def test_kept_and_equal(self):
        class Other:
            """No paper, though it has all attributes of one."""
            lot, sequence, messages, listing = 1, 2, 3, 4

        marks = [BestPaper(a, b, c, d) for a in (1, Odd()) for b in (2, 7) for c in (3, 7) for d in (4, 7)]
        first = marks[0]
        self.assertEqual((first.lot, first.sequence, first.messages, first.listing), (1, 2, 3, 4))
        self.assertEqual(first, BestPaper(lot=1, sequence=2, messages=3, listing=4))
        self.assertFalse(first != BestPaper(1, 2, 3, 4))
        for mark in marks[1:8]:
            self.assertNotEqual(first, mark)
        for mark in (Other(), None, (1, 2, 3, 4), BestPaper):
            self.assertFalse(first == mark)
            self.assertTrue(first != mark)

    def test_right(self):
        self.assertIsNone(check_best_paper(net=NET, news=(), many=2, value=PAPER))
        self.assertTrue(is_best_paper(net=NET, news=(), many=2, value=PAPER))
        self.judged(NET, (), 3, other(PAPER, listing=LISTING), None)
        self.judged(NET, (), 4, other(PAPER, listing=LISTING), None)
        self.judged(NET, (), 10 ** 30, other(PAPER, listing=LISTING), None)
        # Too many for the number, or too few.
        self.judged(NET, (), 1, PAPER, 3)
        self.judged(NET, (), 2, other(PAPER, listing=LISTING), 4)
        self.judged(NET, (), 3, PAPER, 4)
        self.judged(NET, (), 1, other(PAPER, listing=()), 2)
        self.judged(SURE, NO_WORLD, 1, best_paper(SURE, NO_WORLD, LOT, 1), None)
        self.judged(SURE, NO_WORLD, 1, best_paper(SURE, (), LOT, 1), 3)

    def test_forms(self):
        for value in NO_TUPLES + ((), (LOT, SEQUENCE, MESSAGES, LISTING), nest(100000), NET, BestPaper):
            self.judged(NET, (), 2, value, -1)
        for value in NO_TUPLES + (nest(100000),):
            for name in ("lot", "sequence", "messages", "listing"):
                if name != "listing" or not isinstance(value, tuple):
                    self.judged(NET, (), 2, other(PAPER, **{name: value}), -1)
        for value in ((1, 0), (0, 2), (-1,), (0, 0), (0, True)):
            self.judged(NET, (), 2, other(PAPER, lot=value), -1)
        for value in ((), (0,), (0, 0), (0, 1, 2), (0, 2), (False, 1)):
            self.judged(NET, (), 2, other(PAPER, sequence=value), -1)
        self.judged(NET, (), 2, BestPaper((1,), (1, 0), MESSAGES, LISTING), -1)
        for value in ((), MESSAGES[:1], MESSAGES * 2):
            self.judged(NET, (), 2, other(PAPER, messages=value), -1)

    def test_messages(self):
        first, last = MESSAGES
        entries = first[1]
        for value in NO_TUPLES + ((), (first[0],), first + (1,), ((0, 1), entries * 2), ((1,), entries), ((2,), entries),
                                  ((), entries[:1]), ((0,), list(entries)), ([0], entries), ((0,), entries[:1]),
                                  ((0,), entries * 2), ((False,), entries), nest(100000)):
            self.judged(NET, (), 2, other(PAPER, messages=(value, None)), 0)
            self.judged(NET, (), 2, other(PAPER, messages=(first, value)), 1)
        for value in NO_TUPLES + ((), ((1, 2),), ((1, 1), ((1, 0),), 1), ((2, 2), ((1, 0),)), ((0, 1), ((1, 0),)),
                                  ((-1, 2), ((1, 0),)), ((1, 1), ()), ((1, 1), ((0, 0),)), ((1, 1), ((1, 2),)),
                                  ((1, 1), ((1, 0), (1, 1))), ((1, 1), ((True, 0),)), ((1, 1), ((1, -1),)), ((1, 1), [(1, 0)]),
                                  ((1, 1), ([1, 0],)), ((1, 1), ((1,),)), ((1, 1), (1, 0)), ((True, 1), ((1, 0),)),
                                  ((1, 1), ((1, 0, 0),)), ((1, 2), ((1, 0),)), ((1, 1), ((1, 1),)), nest(100000)):
            self.judged(NET, (), 2, other(PAPER, messages=(((0,), (value,) + entries[1:]), last)), 0)
        # What comes before what is due tells too much, and may stand; the bounds may then be too great.
        much = ((0,), entries[:1] + (((2, 1), ((1, 1),)),))
        both = (much, ((), (((6, 5), ((0, 1), (1, 1))),)))
        self.judged(NET, (), 1, other(PAPER, messages=both, listing=LISTING[:1]), 3)
        self.judged(NET, (), 2, other(PAPER, messages=both), None)
        self.judged(NET, (), 2, other(PAPER, messages=(much, last)), 1)
        self.judged(NET, (), 1, other(PAPER, listing=(), messages=(first, ((), (None,)))), 1)

    def test_sums(self):
        paper = best_paper(NET, (), (0,), 1)
        self.assertEqual(paper.messages[0], ((0,), ((1, 1), (1, 1))))
        self.judged(NET, (), 1, paper, None)
        for entries in (((1, 1), (2, 1)), ((1, 1), None), ((1, 1), (True, 1)), ((2, 2), (1, 1)), ((1, 1), ((1, 1), ())),
                        ((1, 1), Odd()), ((1, 1),), ((1, 1), (1, 1), (1, 1)), [(1, 1), (1, 1)]):
            self.judged(NET, (), 1, other(paper, messages=(((0,), entries),) + paper.messages[1:]), 0)

    def test_wider(self):
        # A message may stand on more things than are due, as long as they are later ones.
        net = Net(SURE.things)
        sequence = (2, 1, 0)
        messages = best_messages(net, (), (0, 1), sequence)
        self.assertEqual(messages[0], ((), ((1, 1),)))
        wide = ((0, 1), ((1, 1),) * 4)
        rest = best_messages(net, (), (0, 1), sequence)[1:]
        paper = BestPaper((0, 1), sequence, (wide,) + rest, (((1, 2), (0, 0)), ((1, 2), (0, 1))))
        self.judged(net, (), 2, paper, None)
        self.judged(net, (), 3, paper, None)
        both = best_messages(net, (), (0, 1, 2), (2, 1, 0))
        self.assertEqual(both[0], ((), (((1, 2), ((2, 0),)),)))
        listing = tuple(plain_ranking(net, (), (0, 1, 2)))
        entry = both[0][1][0]
        spread = ((1,), (entry, entry))
        # Its parts then belong to what the next thing takes.
        whole = (spread, ((0,), (((1, 4), ((1, 0), (2, 0))),) * 2), ((), (((1, 4), ((0, 0), (1, 0), (2, 0))),)))
        self.judged(net, (), 9, BestPaper((0, 1, 2), (2, 1, 0), both, listing), None)
        self.judged(net, (), 9, BestPaper((0, 1, 2), (2, 1, 0), whole, listing), None)
        self.judged(net, (), 9, BestPaper((0, 1, 2), (2, 1, 0), (spread,) + both[1:], listing), 1)
        self.judged(net, (), 9, BestPaper((0, 1, 2), (2, 1, 0), whole[:1] + (((0,), (None, None)),) + whole[2:], listing), 1)

    def test_listings(self):
        for value in NO_TUPLES + ((), ((2, 5),), ((2, 5), (0, 0), 1), ((2, 5), [0, 0]), ((2, 5), (0,)), ((2, 5), (0, 2)),
                                  ((2, 5), (0, -1)), ((2, 5), (False, 0)), ((4, 10), (0, 0)), ((1, 5), (0, 0)), ((0, 1), (0, 1)),
                                  ((2, 5), (0, 1)), ((2, 5), ((0, 0), (1, 0))), nest(100000)):
            self.judged(NET, (), 2, other(PAPER, listing=(value, LISTING[0])), 2)
            self.judged(NET, (), 2, other(PAPER, listing=(LISTING[0], value)), 3)
        self.judged(NET, (), 2, other(PAPER, listing=(LISTING[1], LISTING[0])), 3)
        self.judged(NET, (), 3, other(PAPER, listing=(LISTING[0], LISTING[2], LISTING[1])), 4)
        self.judged(NET, (), 3, other(PAPER, listing=(LISTING[0], LISTING[0])), 3)
        # Right fillings that are not the first ones: a rim has one before the last.
        self.judged(NET, (), 2, other(PAPER, listing=(LISTING[0], LISTING[2])), 4)
        self.judged(NET, (), 1, other(PAPER, listing=(LISTING[1],)), 3)

    def test_drawn(self):
        kinds = {}
        for rng in drawn(250, 380):
            net, news, many, paper = draw_paper(rng)
            self.judged(net, news, many, paper, None)
            at = rng.randrange(len(net.things))
            things, entries = paper.messages[at]
            place = rng.randrange(len(entries))
            entry = self.spoil(rng, entries[place])
            messages = exchanged(paper.messages, at, (things, exchanged(entries, place, entry)))
            spoilt = other(paper, messages=messages)
            due = self.due(net, news, many, spoilt)
            kinds[(due is None, due == -1 or due is not None and due >= len(net.things))] = True
            self.judged(net, news, many, spoilt, due)
        self.assertEqual(len(kinds), 3)

    def spoil(self, rng, entry):
        """Another entry that tells more or less."""
        if entry is None:
            return None if rng.random() < 0.5 else ((1, 1), ())
        if isinstance(entry[0], int):
            return pair_of(plain(entry) + rng.choice((0, Fraction(1, 7))))
        weight = plain(entry[0]) * rng.choice((1, Fraction(11, 10), 3, Fraction(9, 10)))
        return pair_of(weight), entry[1]

    def due(self, net, news, many, paper):
        """What is first wrong with a paper whose messages have the right things, or None."""
        counts = counts_of(net)
        factors = [(row[2] + (at,), {}) for at, row in enumerate(net.things)]
        exact = plain_messages(net, news, paper.lot, paper.sequence)
        told = {}
        for thing, (things, entries) in zip(paper.sequence, paper.messages):
            told[thing] = dict(zip(fillings_in(net, things), entries))
        # The messages before the spoilt one are the exact ones; each later one is judged by what it takes.
        for at, thing in enumerate(paper.sequence):
            again = self.again(net, news, paper, at)
            for key, entry in told[thing].items():
                due = again[1][key]
                if thing not in paper.lot and entry != due or thing in paper.lot and not self.is_enough(
                        paper, at, entry, due):
                    return at
        self.assertEqual(len(exact), len(factors))
        listing = plain_ranking(net, news, paper.lot)
        line = line_of(paper.lot, paper.sequence)
        starts = [start_of(paper.lot, line, filling) for _, filling in paper.listing]
        for rim in plain_rims(counts, line, starts):
            bound = bound_of_start(net, news, paper, rim)
            if bound is not None and (len(starts) < many or not self.is_behind(paper.listing[-1], bound)):
                return len(net.things) + len(starts)
        self.assertEqual(tuple(listing[:many]), paper.listing)
        return None

    def again(self, net, news, paper, at):
        """The message that the ones before it in a paper make."""
        factors = [(things, dict(zip(fillings_in(net, things), entries)))
                   for things, entries in self.first(net, news)]
        for place, thing in enumerate(paper.sequence[:at + 1]):
            taken = [factor for factor in factors if thing in factor[0]]
            things, entries = paper.messages[place]
            found = {}
            for filling in fillings_in(net, things):
                joined = []
                for case in range(counts_of(net)[thing]):
                    cases = {**dict(zip(things, filling)), thing: case}
                    joined.append(([known[tuple(cases[one] for one in lot)] for lot, known in taken], (thing, case)))
                found[filling] = self.join(joined, thing in paper.lot)
            factors = [factor for factor in factors if thing not in factor[0]]
            factors.append((things, dict(zip(fillings_in(net, things), entries))))
        return things, found

    def first(self, net, news):
        """The factors at first."""
        told = dict(news)
        found = []
        for thing, (_, count, parents, rows) in enumerate(net.things):
            weights = told.get(thing, ((1, 1),) * count)
            found.append((parents + (thing,), [
                pair_of(plain(entry) * plain(weight)) for row in rows for entry, weight in zip(row, weights)]))
        return found

    def join(self, joined, is_in_lot):
        """The sum, or the first of what is joined."""
        if not is_in_lot:
            total = Fraction(0)
            for parts, _ in joined:
                value = Fraction(1)
                for part in parts:
                    value *= plain(part)
                total += value
            return pair_of(total)
        found = []
        for parts, pair in joined:
            weight, pairs = Fraction(1), (pair,)
            for part in parts:
                value = ((0, 1), ()) if part is None else part if isinstance(part[0], tuple) else (part, ())
                weight *= plain(value[0])
                pairs += value[1]
            if weight:
                found.append((-weight, tuple(sorted(pairs))))
        return as_told((-min(found)[0], min(found)[1])) if found else None

    def is_enough(self, paper, at, entry, due):
        """Whether an entry has the right things and does not come behind what is due."""
        if entry is None:
            return due is None
        own = self.own_things(paper, at)
        if [thing for thing, _ in entry[1]] != own:
            return False
        return due is None or not self.is_behind(entry, due, True)

    def own_things(self, paper, at):
        """The things of the parts of a message whose messages have the things that are due."""
        known, found = [], []
        for place, thing in enumerate(paper.sequence[:at + 1]):
            taken = [lots for things, lots in known if thing in things]
            found = sorted([one for lots in taken for one in lots] + ([thing] if thing in paper.lot else []))
            known = [pair for pair in known if thing not in pair[0]] + [(paper.messages[place][0], found)]
        return found

    def is_behind(self, one, two, strictly=False):
        """Whether the second of two placed values comes behind the first one (or, strictly, before it)."""
        first, second = (-plain(one[0]), one[1]), (-plain(two[0]), two[1])
        return second < first if strictly else first < second


class TestStarts(unittest.TestCase):
    def test_rims(self):
        for rng in drawn(100, 381):
            net = draw_net(rng, rng.randint(1, 4))
            lot = draw_any_lot(rng, net)
            line = line_of(lot, draw_mixed(rng, net, lot))
            fillings = fillings_in(net, lot)
            chosen = rng.sample(fillings, rng.randint(0, min(5, len(fillings))))
            starts = [start_of(lot, line, filling) for filling in chosen]
            rims = rims_of(counts_of(net), line, starts)
            self.assertEqual((sorted(rims), len(rims)), (sorted(plain_rims(counts_of(net), line, starts)), len(set(rims))))
            # Each other filling has exactly one of them.
            for filling in fillings:
                start = start_of(lot, line, filling)
                self.assertEqual(sum(start[:len(rim)] == rim for rim in rims), filling not in chosen)

    def test_bounds(self):
        for rng in drawn(100, 382):
            net, news, _, paper = draw_paper(rng)
            line = line_of(paper.lot, paper.sequence)
            ranking = plain_ranking(net, news, paper.lot)
            many = rng.randint(0, len(line))
            for start in fillings_in(net, line[:many]):
                having = [placed for placed in ranking if start_of(paper.lot, line, placed[1])[:many] == start]
                bound = bound_of_start(net=net, news=news, paper=paper, start=start)
                self.assertEqual(bound, having[0] if having else None)
                # The listing does not matter.
                self.assertEqual(bound_of_start(net, news, other(paper, listing=None), start), bound)

    def test_too_much(self):
        much = (((0,), (((2, 1), ((1, 1),)),) + MESSAGES[0][1][1:]), ((), (((9, 10), ((0, 0), (1, 0))),)))
        paper = other(PAPER, messages=much)
        self.assertEqual(bound_of_start(NET, (), paper, ()), ((9, 10), (0, 0)))
        self.assertEqual(bound_of_start(NET, (), paper, (0,)), ((4, 5), (0, 1)))
        self.assertEqual(bound_of_start(NET, (), paper, (0, 1)), None)
        self.assertEqual(bound_of_start(NET, (), paper, (1, 1)), ((3, 10), (1, 1)))


if __name__ == "__main__":
    unittest.main()
