"""Points 1 to 4 over the whole program: whatever way leads to an answer, it is the one that the plain sums tell."""

import unittest

from allworlds.arrows import cut_net, heard_news, lean_net
from allworlds.blockers import least_blockers
from allworlds.eliminating import greatest_weight, share_by, shares_by, weight_by
from allworlds.kept import Kept
from allworlds.leaving import question_net, told_net
from allworlds.likely import best_fillings, best_worlds
from allworlds.moved import entry_at_spot, moved_share, spots_of
from allworlds.needed import needed_net, piece_totals
from allworlds.nets import finding
from allworlds.numbers import product_of_all
from allworlds.orders import is_order, reordered
from allworlds.papers import paper_of, paper_with, shares_of, shares_of_all, total_in, turned_paper
from allworlds.plain import plain_best_in, plain_share, plain_shares, plain_total
from allworlds.reader import read_claim, read_net, read_news
from allworlds.readings import lot_shares, news_slopes, share_in, slopes_of, total_by
from allworlds.reasons import least_reasons
from allworlds.runs import run_commands
from allworlds.standing import share_at_entry
from allworlds.tables import table_of, table_of_news
from allworlds.turns import least_turns
from tests.cases import ErrorCase
from tests.drawn import draw_claim, draw_lot, draw_net, draw_news, drawn, plain_weight, all_worlds, pair_of
from tests.questions import draw_asked, least_of_lots, plain_reasons, turning_fillings, changes, lots_of
from tests.test_messages import draw_homes, draw_wide_tree


def draw_barred(rng):
    """A net and news, often such that no world is left."""
    net = draw_net(rng)
    return net, draw_news(rng, net)


class TestWays(ErrorCase):
    def test_totals(self):
        for rng in drawn(80, 460):
            net, news = draw_barred(rng)
            total = pair_of(sum(plain_weight(net, news, world) for world in all_worlds(net)))
            sequence = tuple(rng.sample(range(len(net.things)), len(net.things)))
            tree = draw_wide_tree(rng, net)
            paper = paper_with(net, news, tree, draw_homes(rng, net, tree))
            thing = rng.randrange(len(net.things))
            kept = Kept(net, tree)
            for told, weights in news:
                kept.put(told, weights)
            for way in (plain_total(net, news), weight_by(net, news, None, sequence), total_in(paper), kept.total(),
                        total_in(turned_paper(paper, rng.randrange(len(tree[0])))), product_of_all(piece_totals(net, news)),
                        total_by(slopes_of(net, news, paper, thing), table_of(net, thing)),
                        total_by(news_slopes(net, news, paper, thing), table_of_news(net, news, thing)),
                        plain_total(lean_net(net), news), plain_total(cut_net(net, news), news),
                        greatest_weight(net, news, (), sequence),
                        run_commands(net, tuple(("put",) + item for item in news) + (("total",),))[-1][1]):
                self.assertEqual(way, total)

    def test_shares_of_claims(self):
        for rng in drawn(80, 461):
            net, news = draw_barred(rng)
            claim = draw_claim(rng, net)
            many = len(net.things)
            sequence = tuple(rng.sample(range(many), many))
            spot = rng.choice(spots_of(net))
            kept = Kept(net)
            for told, weights in news:
                kept.put(told, weights)
            paper = paper_of(net, news, draw_wide_tree(rng, net))
            order = rng.choice([one for one in [tuple(range(many))] + [sequence] if is_order(net, one)])
            ways = [
                lambda: share_by(net, news, claim, sequence), lambda: share_in(net, news, paper, claim), lambda: kept.share(claim),
                lambda: plain_share(told_net(net, news), (), claim), lambda: plain_share(lean_net(net), heard_news(net, news), claim),
                lambda: share_at_entry(net, news, claim, spot, entry_at_spot(net, spot)),
                lambda: share_in(reordered(net, order), self.renumbered(news, order), paper_of(
                    reordered(net, order), self.renumbered(news, order)), self.claim_by(claim, order))]
            if plain_total(net, news)[0] == 0:
                for way in [lambda: plain_share(net, news, claim)] + ways:
                    self.refused("barred", way)
                continue
            due = plain_share(net, news, claim)
            for way in ways:
                self.assertEqual(way(), due)
            deeds = tuple(("put",) + item for item in news)
            self.assertEqual(run_commands(net, deeds + (("share", claim),))[-1], ("share", due))
            self.assertEqual(len(moved_share(net, news, claim, spot)), 4)

    def renumbered(self, news, order):
        """News with the numbers that things have in another order."""
        return tuple(sorted((order.index(thing), weights) for thing, weights in news))

    def claim_by(self, claim, order):
        """A claim with the numbers that things have in another order."""
        if claim[0] == "is":
            return ("is", order.index(claim[1]), claim[2])
        return claim[:1] + tuple(self.claim_by(part, order) for part in claim[1:])

    def test_shares_of_lots(self):
        for rng in drawn(80, 462):
            net, news = draw_barred(rng)
            if plain_total(net, news)[0] == 0:
                continue
            many = len(net.things)
            lot = draw_lot(rng, many)
            others = [thing for thing in range(many) if thing not in lot]
            due = plain_shares(net, news, lot)
            tree = draw_wide_tree(rng, net)
            self.assertEqual(shares_by(net, news, lot, tuple(rng.sample(others, len(others)))).entries, due)
            self.assertEqual(lot_shares(net, news, paper_of(net, news, tree), lot).entries, due)
            if lot:
                self.assertEqual(plain_shares(question_net(net, news, lot), (), tuple(range(len(lot)))), due)
            alone = [plain_shares(net, news, (thing,)) for thing in range(many)]
            self.assertEqual(list(shares_of_all(net, news, tree)), alone)
            self.assertEqual([shares_of(net, news, thing) for thing in range(many)], alone)
            for thing in range(many):
                self.needed(net, news, thing, alone[thing])

    def needed(self, net, news, thing, due):
        """Ask for the shares of a thing by what is needed for them."""
        self.assertEqual(len(due), net.things[thing][1])
        told = [case for case, share in enumerate(due) if share == (1, 1)]
        if told and finding(net, thing, told[0]) in news:
            return
        if all(weights.count((0, 1)) < len(weights) - 1 for at, weights in news if at == thing):
            made, numbers, heard = needed_net(net, (thing,), news)
            self.assertEqual(plain_shares(made, heard, (numbers.index(thing),)), due)

    def test_likely(self):
        for rng in drawn(60, 463):
            net, news = draw_barred(rng)
            if plain_total(net, news)[0] == 0:
                continue
            lot, many = draw_lot(rng, len(net.things)), rng.randint(1, 6)
            due = plain_best_in(net, news, lot, many)
            self.assertEqual(best_fillings(net, news, lot, many), due)
            if lot:
                made = question_net(net, news, lot)
                self.assertEqual(best_worlds(made, (), many), due)
            deeds = tuple(("put",) + item for item in news)
            self.assertEqual(run_commands(net, deeds + (("best", many),))[-1][1], best_worlds(told_net(net, news), (), many))

    def test_least_lots(self):
        for rng in drawn(60, 464):
            net, question = draw_asked(rng)
            reasons = least_of_lots(plain_reasons(net, question))
            turning = [changes(question, filling) for filling in turning_fillings(net, question)]
            told = [thing for thing, _ in question[2]]
            turns = least_of_lots([lot for lot in lots_of(told) if any(set(one) <= set(lot) for one in turning)])
            self.assertEqual(least_reasons(net, question), reasons)
            self.assertEqual(least_turns(net, question), turns)
            self.assertEqual(least_blockers(reasons), turns)
            self.assertEqual(least_blockers(turns), reasons)

    def test_texts(self):
        net = read_net("kiln 2: 1/4 3/4\nchip 2 of kiln: 2/3 1/3, 1/6 5/6")
        news = read_news(net, "chip is 0")
        claim = read_claim(net, "kiln is 0 | chip is 1")
        self.assertEqual(share_in(net, news, paper_of(net, news), claim), (4, 7))


class TestArguments(unittest.TestCase):
    """Dicts and lists that are passed stay as they are, and returned ones are new."""

    def test_equal_calls(self):
        for rng in drawn(20, 465):
            net, news = draw_barred(rng)
            for told in (lambda: paper_of(net, news), lambda: piece_totals(net, news), lambda: spots_of(net),
                         lambda: lean_net(net), lambda: heard_news(net, news)):
                self.assertEqual(told(), told())


if __name__ == "__main__":
    unittest.main()
