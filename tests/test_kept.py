"""Points 49 to 52: a net and news kept up, and how few messages are made."""

import unittest

from allworlds.errors import InvalidClaim, InvalidNet, InvalidNews
from allworlds.kept import Kept
from allworlds.nets import Net, with_rows
from allworlds.papers import own_tree, paper_with
from allworlds.plain import plain_share, plain_shares, plain_total
from allworlds.reader import read_net
from allworlds.routes import steps_from, steps_joining, steps_to
from allworlds.trees import holder_of, homes_of
from tests.cases import HALF, NO_WORLD, SURE, ErrorCase, chain_net_of, wide_net
from tests.drawn import (
    NO_INTEGERS, NO_TUPLES, Odd, draw_claim, draw_net, draw_row, draw_weights, drawn, nest,
)
from tests.questions import things_spoken
from tests.test_messages import draw_wide_tree
from tests.test_trees import plain_way

LAMP = read_net("lamp 2: 2/5 3/5\nglow 2 of lamp: 3/4 1/4, 1/6 5/6")
TREE = (((0,), (0, 1)), (-1, 0))
DARK = ((1, 1), (0, 1))


def draw_deed(rng, net, kept):
    """Do something to what is kept up, and tell what it was."""
    kind = rng.randrange(6)
    thing = rng.randrange(len(net.things))
    told = [at for at, _ in kept.present_news()]
    if kind < 2:
        deed = ("put", thing, draw_weights(rng, net.things[thing][1]))
        kept.put(deed[1], deed[2])
    elif kind == 2 and told:
        deed = ("take", rng.choice(told))
        kept.take(deed[1])
    elif kind == 3:
        rows = tuple(draw_row(rng, net.things[thing][1]) for _ in net.things[thing][3])
        deed = ("rows", thing, rows)
        kept.change_rows(thing, rows)
    elif kind == 4 and kept.deeds():
        kept.back()
        deed = ("back",)
    else:
        # A deed that changes nothing.
        deed = ("rows", thing, kept.present_net().things[thing][3])
        kept.change_rows(thing, deed[2])
    return deed


class Ledger:
    """The net and the news that deeds leave, one state behind each."""

    def __init__(self, net):
        self.states = [(net, {})]
        self.done = []

    def note(self, deed):
        """Do a deed here, too."""
        if deed[0] == "back":
            self.states.pop()
            self.done.pop()
            return
        net, news = self.states[-1]
        news = dict(news)
        if deed[0] == "put":
            news[deed[1]] = deed[2]
        elif deed[0] == "take":
            del news[deed[1]]
        else:
            net = with_rows(net, deed[1], deed[2])
        self.states.append((net, news))
        self.done.append(deed)

    def now(self):
        """The net and the news."""
        net, news = self.states[-1]
        return net, tuple(sorted(news.items()))


class TestDeeds(ErrorCase):
    def test_example(self):
        kept = Kept(LAMP, TREE)
        self.assertEqual((kept.net, kept.tree, kept.homes), (LAMP, TREE, (0, 1)))
        told = (kept.shares(0), kept.put(1, DARK), kept.shares(0), kept.made())
        self.assertEqual(told, (((2, 5), (3, 5)), None, ((3, 4), (1, 4)), 2))
        self.assertEqual((kept.back(), kept.shares(0), kept.made()), (None, ((2, 5), (3, 5)), 2))
        self.assertEqual(kept.deeds(), ())

    def test_deeds(self):
        kept = Kept(net=LAMP)
        self.assertEqual((kept.tree, kept.homes), (own_tree(LAMP), homes_of(LAMP, own_tree(LAMP))))
        self.assertEqual((kept.present_net(), kept.present_news(), kept.deeds(), kept.made()), (LAMP, (), (), 0))
        rows = (HALF, HALF)
        self.assertIsNone(kept.put(thing=1, weights=DARK))
        self.assertIsNone(kept.put(0, HALF))
        self.assertIsNone(kept.change_rows(thing=1, rows=rows))
        self.assertIsNone(kept.take(thing=1))
        self.assertIsNone(kept.put(0, HALF))
        due = (("put", 1, DARK), ("put", 0, HALF), ("rows", 1, rows), ("take", 1), ("put", 0, HALF))
        self.assertEqual(kept.deeds(), due)
        self.assertEqual((kept.present_net(), kept.present_news()), (with_rows(LAMP, 1, rows), ((0, HALF),)))
        self.assertEqual((kept.net, kept.made()), (LAMP, 0))
        for many in reversed(range(5)):
            self.assertIsNone(kept.back())
            self.assertEqual(kept.deeds(), due[:many])
        self.assertEqual((kept.present_net(), kept.present_news()), (LAMP, ()))

    def test_refused(self):
        self.refused("home", Kept, LAMP, (((0,), (1,)), (-1, 0)))
        kept = Kept(LAMP, TREE)
        self.refused("first", kept.back)
        for value in NO_INTEGERS + (-1, 2, 10 ** 400):
            for told in (lambda: kept.put(value, None), lambda: kept.take(value), lambda: kept.change_rows(value, None),
                         lambda: kept.shares(value)):
                self.refused("thing", told)
        wrong = NO_TUPLES + ((), ((1, 1),), ((1, 1),) * 3, ((0, 1), (0, 1)), ((1, 1), (-1, 2)), ((2, 2), (1, 1)), nest(100000))
        for value in wrong:
            for thing in (0, 1):
                self.raised(InvalidNews, thing, kept.put, thing, value)
                self.raised(InvalidNet, thing, kept.change_rows, thing, value)
        for rows in ((HALF,), (HALF, ((1, 2), (1, 3))), (HALF, Odd()), (HALF, HALF, HALF)):
            self.raised(InvalidNet, 1, kept.change_rows, 1, rows)
        self.refused("none", kept.take, 0)
        kept.put(0, DARK)
        self.refused("none", kept.take, 1)
        self.raised(InvalidNews, 0, kept.put, 0, ((0, 1), (0, 1)))
        # Nothing has changed by what was refused.
        self.assertEqual((kept.deeds(), kept.present_net(), kept.made()), ((("put", 0, DARK),), LAMP, 0))
        kept.back()
        self.refused("first", kept.back)

    def test_side_by_side(self):
        one, other = Kept(LAMP, TREE), Kept(LAMP, TREE)
        one.put(1, DARK)
        self.assertEqual((other.present_news(), other.deeds()), ((), ()))
        self.assertEqual(one.total(), (2, 5))
        self.assertEqual((other.total(), other.made()), ((1, 1), 1))
        self.refused("first", other.back)


class TestAnswers(ErrorCase):
    def test_drawn(self):
        for rng in drawn(60, 410):
            net = draw_net(rng)
            kept = Kept(net, draw_wide_tree(rng, net)) if rng.random() < 0.8 else Kept(net)
            ledger = Ledger(net)
            for _ in range(12):
                ledger.note(draw_deed(rng, net, kept))
                self.assertEqual((kept.present_net(), kept.present_news()), ledger.now())
                self.assertEqual(kept.deeds(), tuple(ledger.done))
                self.ask(rng, kept, *ledger.now())

    def ask(self, rng, kept, net, news):
        """Ask for one or two answers."""
        for _ in range(rng.randint(0, 2)):
            kind = rng.randrange(4)
            thing = rng.randrange(len(net.things))
            claim = draw_claim(rng, net, 3)
            barred = plain_total(net, news)[0] == 0
            if kind == 0:
                self.assertEqual(kept.total(), plain_total(net, news))
            elif kind == 1:
                self.assertEqual(kept.paper(), paper_with(net, news, kept.tree, kept.homes))
            elif barred:
                self.refused("barred", kept.shares, thing)
                self.refused("barred", kept.share, claim)
            elif kind == 2:
                self.assertEqual(kept.shares(thing=thing), plain_shares(net, news, (thing,)))
            else:
                self.assertEqual(kept.share(claim=claim), plain_share(net, news, claim))

    def test_errors(self):
        net = wide_net(15)
        kept = Kept(net)
        many = ("or",) + tuple(("is", thing, (1,)) for thing in range(15))
        for value in NO_TUPLES + ((), nest(100000)):
            self.raised(InvalidClaim, 0, kept.share, value)
            self.raised(InvalidClaim, 1, kept.share, ("not", value))
        self.refused("size", kept.share, many)
        self.raised(InvalidClaim, 17, kept.share, ("and", many, ("is", 0, (2,))))
        self.assertEqual(kept.made(), 0)
        self.assertEqual(kept.share(many[:15]), (2 ** 14 - 1, 2 ** 14))
        sure = Kept(SURE)
        sure.put(0, NO_WORLD[0][1])
        self.refused("barred", sure.shares, 1)
        self.refused("barred", sure.share, ("is", 1, (0,)))
        self.assertEqual(sure.total(), (0, 1))
        self.assertEqual(sure.paper(), paper_with(SURE, NO_WORLD, sure.tree, sure.homes))


class PlainMessages:
    """What is made and kept, by the words of the document: numbers stand for the tables that are compared."""

    def __init__(self, tree, homes):
        self.tree, self.homes = tree, homes
        self.kept, self.made = {}, 0

    def own(self, net, news, cluster):
        """What the own table of a cluster is: it depends on the rows and the news of the things there."""
        from allworlds.messages import own_table
        return own_table(net, news, self.tree, self.homes, cluster)

    def look(self, net, news, steps):
        """Look at steps one after another."""
        from allworlds.sums import product_of, summed_to
        for start, goal in steps:
            near = [at for at in range(len(self.tree[0]))
                    if at != goal and at != start and len(plain_way(self.tree, at, start)) == 2]
            made_of = [self.own(net, news, start)] + [self.kept[(at, start)][0] for at in near]
            if (start, goal) not in self.kept or self.kept[(start, goal)][1] != made_of:
                shared = tuple(sorted(set(self.tree[0][start]) & set(self.tree[0][goal])))
                self.kept[(start, goal)] = (summed_to(product_of(made_of), shared), made_of)
                self.made += 1

    def steps_for(self, answer, claim=None, thing=None):
        """The steps at which an answer looks."""
        if answer == "shares":
            return steps_to(self.tree, self.homes[thing])
        if answer == "total":
            return steps_to(self.tree, 0)
        if answer == "share":
            holder = holder_of(self.tree, tuple(sorted(things_spoken(claim))))
            if holder is not None:
                return steps_to(self.tree, holder)
        return steps_to(self.tree, 0) + steps_from(self.tree, 0)


class TestMade(ErrorCase):
    def test_drawn(self):
        for rng in drawn(60, 411):
            net = draw_net(rng)
            kept = Kept(net, draw_wide_tree(rng, net))
            ledger, plain = Ledger(net), PlainMessages(kept.tree, kept.homes)
            before = []
            for _ in range(15):
                last = kept.deeds()[-1:]
                snapshot = dict(plain.kept)
                made = kept.made()
                deed = draw_deed(rng, net, kept)
                self.assertEqual(kept.made(), made)
                ledger.note(deed)
                if deed[0] == "back":
                    old = before.pop()
                    for step in steps_from(kept.tree, kept.homes[last[0][1]]):
                        plain.kept.pop(step, None)
                        if step in old:
                            plain.kept[step] = old[step]
                else:
                    before.append(snapshot)
                for _ in range(rng.randint(0, 2)):
                    self.answered(rng, kept, plain, *ledger.now())
                    self.assertEqual(kept.made(), plain.made)

    def answered(self, rng, kept, plain, net, news):
        """Ask for any answer in both ways."""
        answer = rng.choice(("shares", "total", "share", "paper"))
        thing = rng.randrange(len(net.things))
        claim = draw_claim(rng, net, 2)
        plain.look(net, news, plain.steps_for(answer, claim, thing))
        values = {"shares": (thing,), "share": (claim,)}.get(answer, ())
        told = getattr(kept, answer)
        if answer in ("shares", "share") and plain_total(net, news)[0] == 0:
            self.refused("barred", told, *values)
        else:
            told(*values)

    def test_few(self):
        # Behind a paper, deeds about things with homes in a lot make only messages on the ways from there.
        for rng in drawn(80, 412):
            net = draw_net(rng)
            kept = Kept(net, draw_wide_tree(rng, net))
            for _ in range(rng.randint(0, 3)):
                draw_deed(rng, net, kept)
            kept.paper()
            standing = len(kept.deeds())
            homes = set()
            for _ in range(rng.randint(1, 4)):
                thing = rng.randrange(len(net.things))
                if rng.random() < 0.3 and len(kept.deeds()) > standing:
                    kept.back()
                else:
                    kept.put(thing, draw_weights(rng, net.things[thing][1]))
                    homes.add(kept.homes[thing])
            thing = rng.randrange(len(net.things))
            goal = kept.homes[thing]
            made = kept.made()
            if plain_total(kept.present_net(), kept.present_news())[0]:
                kept.shares(thing)
                self.assertLessEqual(kept.made() - made, len(steps_joining(kept.tree, tuple(sorted(homes)), goal)))

    def test_back(self):
        # Right behind back, an answer makes no message that it would not have made right before the deed.
        for rng in drawn(80, 413):
            net = draw_net(rng)
            seed = rng.randrange(10 ** 9)
            tree = draw_wide_tree(rng, net)
            thing = rng.randrange(len(net.things))
            made = []
            for asks in (False, True):
                again = type(rng)(seed)
                kept = Kept(net, tree)
                for _ in range(5):
                    draw_deed(again, net, kept)
                    if again.random() < 0.6:
                        kept.paper() if again.random() < 0.3 else kept.total()
                if asks:
                    kept.put(thing, draw_weights(again, net.things[thing][1]))
                    kept.paper()
                    kept.back()
                start = kept.made()
                kept.total()
                made.append(kept.made() - start)
            self.assertLessEqual(made[1], made[0])

    def test_any_sequence(self):
        for rng in drawn(60, 414):
            net = draw_net(rng, rng.randint(2, 5))
            seed, tree = rng.randrange(10 ** 9), draw_wide_tree(rng, net)
            asked = [rng.choice(range(-2, len(net.things))) for _ in range(4)]
            made = set()
            for _ in range(3):
                again = type(rng)(seed)
                kept = Kept(net, tree)
                kept.paper()
                for _ in range(2):
                    draw_deed(again, net, kept)
                rng.shuffle(asked)
                if plain_total(kept.present_net(), kept.present_news())[0]:
                    for goal in asked:
                        kept.total() if goal == -1 else kept.paper() if goal == -2 else kept.shares(goal)
                made.add(kept.made())
            self.assertEqual(len(made), 1)

    def test_total_of_nothing(self):
        # With a total of 0 the messages are made, and stay.
        kept = Kept(SURE, (((0, 1), (0,), (2,)), (-1, 0, 1)))
        kept.put(0, NO_WORLD[0][1])
        self.refused("barred", kept.shares, 2)
        self.assertEqual(kept.made(), 2)
        self.refused("barred", kept.shares, 2)
        self.refused("barred", kept.share, ("is", 2, (0,)))
        self.assertEqual(kept.made(), 2)
        self.refused("barred", kept.share, ("and", ("is", 2, (0,)), ("is", 1, (0,))))
        self.assertEqual(kept.made(), 4)

    def test_long(self):
        net = chain_net_of(24)
        kept = Kept(net)
        kept.paper()
        made = kept.made()
        self.assertEqual(made, 2 * (len(kept.tree[0]) - 1))
        kept.put(12, HALF)
        kept.shares(12)
        self.assertEqual(kept.made(), made)
        kept.put(12, DARK)
        kept.shares(12)
        self.assertEqual(kept.made(), made)
        kept.paper()
        self.assertLessEqual(kept.made() - made, len(kept.tree[0]) - 1)


if __name__ == "__main__":
    unittest.main()
