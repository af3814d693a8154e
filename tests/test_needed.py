"""Points 64 and 65: pieces between told things, and needed things."""

import unittest
from fractions import Fraction
from itertools import product

from allworlds.arrows import heard_news, told_pairs
from allworlds.needed import needed_net, needed_things, piece_totals, pieces_of
from allworlds.nets import Net, finding
from allworlds.plain import are_unbound, plain_shares, plain_total
from allworlds.printer import show_net
from tests.cases import HALF, NO_WORLD, SURE, ErrorCase, chain_net_of
from tests.drawn import draw_lot, draw_net, draw_news, drawn, plain, plain_row
from tests.questions import lots_of

TENTH = ((1, 10), (9, 10))
NET = Net((("a", 2, (), (HALF,)), ("b", 2, (0,), (HALF, TENTH)), ("c", 2, (1,), (HALF, TENTH)),
           ("d", 2, (2,), (TENTH, HALF))))
TOLD_B = ((1, ((0, 1), (1, 1))),)


def told_by_words(news):
    """The told things: just one weight is above 0."""
    return {thing: [case for case, weight in enumerate(weights) if weight[0] > 0][0] for thing, weights in news
            if sum(weight[0] > 0 for weight in weights) == 1}


def lines_to(thing, scopes):
    """All things to which a line leads from one, each tied to the next one."""
    found = {thing}
    while True:
        more = {other for scope in scopes if found & set(scope) for other in scope}
        if more <= found:
            return tuple(sorted(found))
        found |= more


def families(net, things, told):
    """The families of some things without what is told, by thing."""
    return {thing: [one for one in net.things[thing][2] + (thing,) if one not in told] for thing in things}


def plain_pieces(net, news):
    """The pieces, by the words of the document."""
    told = told_by_words(news)
    scopes = families(net, range(len(net.things)), told).values()
    return tuple(sorted({lines_to(thing, scopes) for thing in range(len(net.things)) if thing not in told}))


def older_by_words(net, things):
    """The things from which arrows lead to some things, with these."""
    found = set(things)
    while True:
        more = {parent for thing in found for parent in net.things[thing][2]}
        if more <= found:
            return found
        found |= more


def plain_needed(net, lot, news):
    """The needed things, by the words of the document."""
    told = told_by_words(news)
    heard = [thing for thing, weights in news if len(set(weights)) > 1]
    older = older_by_words(net, list(lot) + heard)
    scopes = families(net, older, told)
    asked = {one for thing in lot if thing not in told for one in lines_to(thing, scopes.values())}
    return tuple(sorted(thing for thing in older if asked & set(scopes[thing])))


class TestPieces(unittest.TestCase):
    def test_examples(self):
        self.assertEqual(pieces_of(net=NET, news=TOLD_B), ((0,), (2, 3)))
        self.assertEqual(pieces_of(NET, ()), ((0, 1, 2, 3),))
        self.assertEqual(pieces_of(NET, tuple(finding(NET, thing, 0) for thing in range(4))), ())
        # Weights that are not those of a finding can tell a thing, too; equal ones tell nothing.
        self.assertEqual(pieces_of(NET, ((1, ((0, 1), (5, 3))), (2, ((2, 1), (2, 1))))), ((0,), (2, 3)))
        self.assertEqual(pieces_of(NET, ((1, ((1, 9), (5, 3))),)), ((0, 1, 2, 3),))
        self.assertEqual(piece_totals(net=NET, news=TOLD_B), ((7, 10), (1, 1), (1, 1)))
        self.assertEqual(piece_totals(NET, TOLD_B + (finding(NET, 2, 0),)), ((7, 10), (1, 1), (1, 10)))

    def test_told_parents_tie_nothing(self):
        # A common child that is not told ties its parents, a told one does, too, as its family is theirs.
        net = Net((("a", 2, (), (HALF,)), ("b", 2, (), (HALF,)), ("c", 2, (0, 1), (HALF,) * 4)))
        self.assertEqual(pieces_of(net, (finding(net, 2, 0),)), ((0, 1),))
        self.assertEqual(pieces_of(net, (finding(net, 0, 0),)), ((1, 2),))

    def test_drawn(self):
        for rng in drawn(120, 330):
            net = draw_net(rng)
            news = draw_news(rng, net, 0.6)
            pieces = pieces_of(net, news)
            self.assertEqual(pieces, plain_pieces(net, news))
            totals = piece_totals(net, news)
            told = dict(told_pairs(net, news))
            self.assertEqual(told, told_by_words(news))
            self.assertEqual(len(totals), len(pieces) + 1)
            whole = Fraction(1)
            for piece, total in zip(pieces + ((),), totals):
                self.assertEqual(plain(total), self.sum_over(net, news, piece, told))
                whole *= plain(total)
            self.assertEqual(whole, plain(plain_total(net, news)))
            if whole:
                for one, other in zip(pieces, pieces[1:]):
                    self.assertTrue(are_unbound(net, news, one, other))

    def sum_over(self, net, news, piece, told):
        """The sum over a piece's fillings of the products of all families that have a thing of it, or of no piece."""
        total = Fraction(0)
        for filling in product(*[range(net.things[thing][1]) for thing in piece]):
            cases = {**told, **dict(zip(piece, filling))}
            value = Fraction(1)
            for thing, row in enumerate(net.things):
                family = set(row[2] + (thing,))
                if family & set(piece) or not piece and family <= set(told):
                    world = [cases.get(at, 0) for at in range(len(net.things))]
                    value *= plain(plain_row(net, thing, world)[world[thing]]) * plain(dict(news).get(
                        thing, ((1, 1),) * row[1])[world[thing]])
            total += value
        return total


class TestNeeded(ErrorCase):
    def test_examples(self):
        self.assertEqual(needed_things(net=NET, lot=(2,), news=TOLD_B), (2,))
        needed = needed_net(net=NET, lot=(2,), news=TOLD_B)
        self.assertEqual(needed[0].things, (("c", 2, (), (((1, 10), (9, 10)),)),))
        self.assertEqual(needed[1:], ((2,), ()))
        self.assertEqual(needed_things(NET, (3,), ()), (0, 1, 2, 3))
        self.assertEqual(needed_things(NET, (0,), TOLD_B), (0, 1))
        net, numbers, heard = needed_net(NET, (0,), TOLD_B + ((3, HALF),))
        self.assertEqual((show_net(net), numbers, heard), ("a 2: 1/2 1/2\nb 2 of a: 1/2 1/2, 1/10 9/10", (0, 1), TOLD_B))

    def test_empty(self):
        for lot, news in (((), ()), ((1,), TOLD_B), ((), TOLD_B), ((0, 1), tuple(finding(NET, at, 1) for at in range(4)))):
            self.assertEqual(needed_things(NET, lot, news), ())
            self.refused("empty", needed_net, NET, lot, news)

    def test_apart(self):
        # News in another piece are not needed, though they are heard.
        net = Net(NET.things + (("e", 3, (), (((1, 3),) * 3,)),))
        news = TOLD_B + ((4, ((1, 1), (2, 1), (0, 1))),)
        self.assertEqual(needed_things(net, (3,), news), (2, 3))
        self.assertEqual(needed_net(net, (3,), news)[2], ())
        self.assertEqual(needed_net(net, (0, 4), news)[1:], ((0, 1, 4), ((1, ((0, 1), (1, 1))), (2, news[1][1]))))

    def test_long(self):
        net = chain_net_of(24)
        self.assertEqual(needed_things(net, (12,), (finding(net, 6, 0), finding(net, 18, 0))), tuple(range(7, 19)))
        self.assertEqual(needed_things(net, (12,), (finding(net, 6, 0),)), tuple(range(7, 13)))

    def test_drawn(self):
        for rng in drawn(120, 331):
            net = draw_net(rng)
            news = draw_news(rng, net, 0.6)
            lot = draw_lot(rng, len(net.things))
            needed = needed_things(net, lot, news)
            self.assertEqual(needed, plain_needed(net, lot, news))
            if not needed:
                self.refused("empty", needed_net, net, lot, news)
                continue
            made, numbers, heard = needed_net(net, lot, news)
            self.assertEqual(numbers, needed)
            told = dict(told_pairs(net, news))
            self.assertEqual(heard, tuple((needed.index(thing), weights) for thing, weights in heard_news(net, news)
                                          if thing in needed))
            for new, old in enumerate(needed):
                name, count, parents, _ = made.things[new]
                self.assertEqual((name, count), net.things[old][:2])
                self.assertEqual(tuple(needed[at] for at in parents),
                                 tuple(at for at in net.things[old][2] if at not in told))
            self.rows_stay(net, made, needed, told)
            self.shares_stay(net, lot, news, made, heard)

    def rows_stay(self, net, made, needed, told):
        """Ask that each thing has the rows at the told cases."""
        for filling in product(*[range(net.things[thing][1]) for thing in needed]):
            cases = {**dict(zip(needed, filling)), **told}
            world = [cases.get(at, 0) for at in range(len(net.things))]
            for new, old in enumerate(needed):
                self.assertEqual(plain_row(made, new, [world[at] for at in needed]), plain_row(net, old, world))

    def shares_stay(self, net, lot, news, made, heard):
        """Ask that the shares of the lot are told by what is needed."""
        if plain_total(net, news)[0] == 0:
            return
        self.assertGreater(plain_total(made, heard)[0], 0)
        told = dict(told_pairs(net, news))
        _, numbers, _ = needed_net(net, lot, news)
        kept = tuple(numbers.index(thing) for thing in lot if thing not in told)
        keys = product(*[range(made.things[at][1]) for at in kept])
        known = dict(zip(keys, plain_shares(made, heard, kept)))
        for filling, share in zip(product(*[range(net.things[at][1]) for at in lot]), plain_shares(net, news, lot)):
            if any(thing in told and case != told[thing] for thing, case in zip(lot, filling)):
                self.assertEqual(share, (0, 1))
            else:
                key = tuple(case for thing, case in zip(lot, filling) if thing not in told)
                self.assertEqual(share, known[key])

    def test_small_worlds(self):
        for lot in lots_of(range(3)):
            self.assertEqual(needed_things(SURE, lot, NO_WORLD), plain_needed(SURE, lot, NO_WORLD))


if __name__ == "__main__":
    unittest.main()
