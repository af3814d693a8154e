"""Points 85, 86 and 87: chains."""

import unittest
from fractions import Fraction
from itertools import product

from allworlds.chains import (
    Chain, backward_weights, chain_net, chain_total, check_seen, filtered_shares, foretold_shares, foretold_signs,
    forward_weights, smoothed_shares,
)
from allworlds.errors import InvalidNews, InvalidNumber, InvalidTable, Refused
from allworlds.nets import Net, finding, names_of
from tests.drawn import (
    NO_INTEGERS, NO_TUPLES, Odd, all_worlds, draw_row, drawn, nest, pair_of, plain, plain_weight,
)

HALF = ((1, 2), (1, 2))
STEPS = (((3, 4), (1, 4)), ((1, 4), (3, 4)))
SHOWS = (((2, 3), (1, 3)), ((1, 3), (2, 3)))
CHAIN = Chain(HALF, STEPS, SHOWS)
# The second case never comes, so its sign is never seen.
SURE = Chain(((1, 1), (0, 1)), (((1, 1), (0, 1)), ((1, 1), (0, 1))), (((1, 1), (0, 1)), ((0, 1), (1, 1))))


def draw_chain(rng):
    """A chain with two or three cases and signs."""
    many, signs = rng.randint(2, 3), rng.randint(2, 3)
    return Chain(draw_row(rng, many), tuple(draw_row(rng, many) for _ in range(many)),
                 tuple(draw_row(rng, signs) for _ in range(many)))


def draw_seen(rng, chain, most=4):
    """What is seen at a few moments."""
    return tuple(
        rng.choice((None,) + tuple(range(len(chain.shows[0])))) for _ in range(rng.randint(1, most)))


def plain_course(chain, seen, course):
    """The share of a course, by its definition."""
    share = plain(chain.start[course[0]])
    for at, case in enumerate(course):
        if at:
            share *= plain(chain.steps[course[at - 1]][case])
        if seen[at] is not None:
            share *= plain(chain.shows[case][seen[at]])
    return share


def courses(chain, many):
    """All courses of so many moments."""
    return list(product(range(len(chain.start)), repeat=many))


class TestChain(unittest.TestCase):
    def refused_at(self, at, *parts):
        with self.assertRaises(InvalidTable) as caught:
            Chain(*parts)
        self.assertEqual(caught.exception.at, at)

    def test_attributes(self):
        self.assertEqual(vars(CHAIN), {"start": HALF, "steps": STEPS, "shows": SHOWS})
        self.assertEqual(vars(Chain(shows=SHOWS, start=HALF, steps=STEPS)), vars(CHAIN))
        row = ((1, 7),) * 7
        Chain(row, (row,) * 7, (HALF,) * 7)

    def test_start(self):
        wrong = NO_TUPLES + ((), ((1, 1),), list(HALF), ((1, 2), (1, 3)), ((3, 2), (-1, 2)), ((2, 4), (1, 2)), (1, 0), nest(100000),
                             ((True, 1), (0, 1)), ((1, 2), None), (Odd(), Odd()))
        for value in wrong:
            self.refused_at(0, value, STEPS, SHOWS)
            self.refused_at(0, value, None, None)

    def test_steps(self):
        wrong = NO_TUPLES + ((), STEPS[:1], STEPS + STEPS[:1], list(STEPS), (HALF, list(HALF)), (HALF, ((1, 1),)), (HALF, None),
                             (HALF, ((1, 3),) * 3), (HALF, ((1, 2), (1, 3))), (HALF, ((3, 2), (-1, 2))), (HALF, nest(100000)),
                             (Odd(), HALF), nest(100000), (HALF, ((1, 1), (False, 1))))
        for value in wrong:
            self.refused_at(1, HALF, value, SHOWS)
            self.refused_at(1, HALF, value, None)

    def test_shows(self):
        third = ((1, 3),) * 3
        wrong = NO_TUPLES + ((), SHOWS[:1], SHOWS + SHOWS[:1], list(SHOWS), (HALF, third), (third, HALF), (HALF, None), (None, HALF),
                             (((1, 1),), ((1, 1),)), ((), ()), (HALF, ((1, 2), (1, 3))), (HALF, list(HALF)), (list(HALF), HALF),
                             (Odd(), HALF), (HALF, Odd()), nest(100000), (nest(100000), HALF))
        for value in wrong:
            self.refused_at(2, HALF, STEPS, value)
        self.assertEqual(Chain(HALF, STEPS, (third, third)).shows, (third, third))

    def test_seen(self):
        for seen in ((0,), (None,), (1, None, 0), (None,) * 60):
            self.assertIsNone(check_seen(CHAIN, seen))
        for value in NO_TUPLES + ((), [0]):
            with self.assertRaises(InvalidNews) as caught:
                check_seen(CHAIN, value)
            self.assertEqual(caught.exception.at, -1)
        items = tuple(item for item in NO_INTEGERS if item is not None)
        for item in items + (2, -1, 10 ** 30, Odd(), nest(100000)):
            for seen, at in (((item,), 0), ((0, None, item), 2), ((1, item, item), 1)):
                with self.assertRaises(InvalidNews) as caught:
                    check_seen(CHAIN, seen)
                self.assertEqual(caught.exception.at, at)

    def test_net(self):
        net = chain_net(CHAIN, 3)
        self.assertEqual(net.things, (
            ("ha", 2, (), (HALF,)), ("sa", 2, (0,), SHOWS), ("hb", 2, (0,), STEPS), ("sb", 2, (2,), SHOWS),
            ("hc", 2, (2,), STEPS), ("sc", 2, (4,), SHOWS)))
        self.assertEqual(chain_net(chain=CHAIN, many=1), Net(net.things[:2]))
        self.assertEqual(names_of(chain_net(CHAIN, 12))[-2:], ("hl", "sl"))

    def test_net_wrong(self):
        for many in NO_INTEGERS + (0, -1, 13, 10 ** 30, Odd(), nest(100000)):
            with self.assertRaises(InvalidNumber) as caught:
                chain_net(CHAIN, many)
            self.assertEqual(caught.exception.word, "many")


class TestWeights(unittest.TestCase):
    def test_example(self):
        self.assertEqual(filtered_shares(CHAIN, (0,)), ((2, 3), (1, 3)))
        self.assertEqual(smoothed_shares(CHAIN, (0, 1), 0), ((10, 17), (7, 17)))
        self.assertEqual(foretold_signs(CHAIN, (0,), 1), ((19, 36), (17, 36)))

    def test_few(self):
        self.assertEqual(forward_weights(CHAIN, (0, None)), (((1, 3), (1, 6)), ((7, 24), (5, 24))))
        self.assertEqual(backward_weights(CHAIN, (0, None)), (((1, 1), (1, 1)), ((1, 1), (1, 1))))
        self.assertEqual(backward_weights(CHAIN, (0,)), (((1, 1), (1, 1)),))
        self.assertEqual(chain_total(CHAIN, (None,)), (1, 1))
        self.assertEqual(chain_total(CHAIN, (0,)), (1, 2))
        self.assertEqual(chain_total(SURE, (0, 1)), (0, 1))

    def test_drawn(self):
        for rng in drawn(80, 45):
            chain = draw_chain(rng)
            seen = draw_seen(rng, chain)
            many = len(chain.start)
            every = [(course, plain_course(chain, seen, course)) for course in courses(chain, len(seen))]
            total = sum(share for _, share in every)
            self.assertEqual(plain(chain_total(chain, seen)), total)
            forward, backward = forward_weights(chain, seen), backward_weights(chain, seen)
            self.assertEqual((len(forward), len(backward)), (len(seen), len(seen)))
            for at in range(len(seen)):
                self.assertEqual((len(forward[at]), len(backward[at])), (many, many))
                both = [plain(a) * plain(b) for a, b in zip(forward[at], backward[at])]
                self.assertEqual(sum(both), total)
                for case in range(many):
                    begun = sum(
                        plain_course(chain, seen[:at + 1], course) for course in courses(chain, at + 1) if course[at] == case)
                    self.assertEqual(plain(forward[at][case]), begun)
                    behind = Fraction(0)
                    for rest in courses(chain, len(seen) - at - 1):
                        product_of = Fraction(1)
                        for last, now, sign in zip((case,) + rest, rest, seen[at + 1:]):
                            product_of *= plain(chain.steps[last][now])
                            product_of *= 1 if sign is None else plain(chain.shows[now][sign])
                        behind += product_of
                    self.assertEqual(plain(backward[at][case]), behind)
                    share = sum(share for course, share in every if course[at] == case)
                    self.assertEqual(both[case], share)

    def test_sixty(self):
        chain = Chain(tuple(pair_of(Fraction(1, 6)) for _ in range(6)), tuple(
            tuple(pair_of(Fraction(1 + (at * k) % 7, sum(1 + (at * j) % 7 for j in range(6)))) for k in range(6))
            for at in range(1, 7)), tuple(draw_row(rng, 6) for rng in drawn(6, 46)))
        seen = tuple(at % 6 if at % 3 else None for at in range(60))
        check_seen(chain, seen)
        forward, backward = forward_weights(chain, seen), backward_weights(chain, seen)
        total = plain(chain_total(chain, seen))
        for at in (0, 30, 59):
            self.assertEqual(sum(plain(a) * plain(b) for a, b in zip(forward[at], backward[at])), total)
        self.assertEqual(sum(plain(share) for share in foretold_shares(chain, seen, 60)), 1)
        self.assertEqual(sum(plain(share) for share in smoothed_shares(chain, seen, 30)), 1)


class TestShares(unittest.TestCase):
    def test_drawn(self):
        barred = 0
        for rng in drawn(80, 47):
            chain = draw_chain(rng)
            seen = draw_seen(rng, chain, 3)
            ahead = rng.randint(0, 2)
            longer = seen + (None,) * ahead
            every = [(course, plain_course(chain, longer, course)) for course in courses(chain, len(longer))]
            total = sum(share for _, share in every)
            if not total:
                barred += 1
                for call in (lambda: filtered_shares(chain, seen), lambda: smoothed_shares(chain, seen, 0),
                             lambda: foretold_shares(chain, seen, ahead), lambda: foretold_signs(chain, seen, ahead)):
                    with self.assertRaises(Refused) as caught:
                        call()
                    self.assertEqual(caught.exception.word, "barred")
                continue

            def at_moment(moment):
                return [
                    sum(share for course, share in every if course[moment] == case) / total
                    for case in range(len(chain.start))]

            self.assertEqual([plain(share) for share in filtered_shares(chain, seen)], at_moment(len(seen) - 1))
            for moment in range(len(seen)):
                self.assertEqual([plain(share) for share in smoothed_shares(chain, seen, moment)], at_moment(moment))
            told = at_moment(len(longer) - 1)
            self.assertEqual([plain(share) for share in foretold_shares(chain, seen, ahead)], told)
            signs = [
                sum(share * plain(row[sign]) for share, row in zip(told, chain.shows)) for sign in range(len(chain.shows[0]))]
            self.assertEqual([plain(share) for share in foretold_signs(chain, seen, ahead)], signs)
        self.assertGreater(barred, 0)

    def test_in_the_net(self):
        tried = 0
        for rng in drawn(25, 48):
            chain = draw_chain(rng)
            seen = draw_seen(rng, chain, 2)
            if chain_total(chain, seen) == (0, 1):
                continue
            tried += 1
            many = len(seen) + 1
            net = chain_net(chain, many)
            news = tuple(finding(net, 2 * at + 1, sign) for at, sign in enumerate(seen) if sign is not None)
            weights = [(world, plain_weight(net, news, world)) for world in all_worlds(net)]
            total = sum(weight for _, weight in weights)

            def shares(thing):
                return tuple(
                    pair_of(sum(weight for world, weight in weights if world[thing] == case) / total)
                    for case in range(net.things[thing][1]))

            self.assertEqual(filtered_shares(chain, seen), shares(2 * len(seen) - 2))
            for moment in range(len(seen)):
                self.assertEqual(smoothed_shares(chain, seen, moment), shares(2 * moment))
            self.assertEqual(foretold_shares(chain, seen, 1), shares(2 * many - 2))
            self.assertEqual(foretold_signs(chain, seen, 1), shares(2 * many - 1))
        self.assertGreater(tried, 10)

    def test_once_more(self):
        # The sign at the last moment that the same case would show once more.
        self.assertEqual(foretold_signs(CHAIN, (0,), 0), ((5, 9), (4, 9)))
        self.assertEqual(foretold_shares(CHAIN, (0,), 0), filtered_shares(CHAIN, (0,)))

    def test_moments(self):
        for moment in NO_INTEGERS + (-1, 2, 10 ** 30, Odd(), nest(100000)):
            with self.assertRaises(InvalidNumber) as caught:
                smoothed_shares(CHAIN, (0, 1), moment)
            self.assertEqual(caught.exception.word, "moment")
            # The number is looked at before the total.
            with self.assertRaises(InvalidNumber):
                smoothed_shares(SURE, (0, 1), moment)

    def test_ahead(self):
        for ahead in NO_INTEGERS + (-1, -10 ** 30, Odd(), nest(100000)):
            for function in (foretold_shares, foretold_signs):
                with self.assertRaises(InvalidNumber) as caught:
                    function(CHAIN, (0,), ahead)
                self.assertEqual(caught.exception.word, "ahead")
                with self.assertRaises(InvalidNumber):
                    function(SURE, (1,), ahead)

    def test_barred(self):
        for call in (lambda: filtered_shares(SURE, (0, 1)), lambda: smoothed_shares(SURE, (0, 1), 0),
                     lambda: foretold_shares(SURE, (0, 1), 0), lambda: foretold_signs(SURE, (1,), 60)):
            with self.assertRaises(Refused) as caught:
                call()
            self.assertEqual(caught.exception.word, "barred")


if __name__ == "__main__":
    unittest.main()
