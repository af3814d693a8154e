"""Points 67 and 68: things and news left out."""

import unittest
from itertools import product

from allworlds.arrows import cut_net, heard_news, lean_net
from allworlds.leaving import net_of_lot, question_net, told_net, without_thing
from allworlds.nets import Net, counts_of, finding, names_of
from allworlds.plain import plain_shares, plain_sums, plain_total
from allworlds.sequences import cluster_behind, scopes_in
from tests.cases import FULL, HALF, NO_WORLD, SURE, ErrorCase, chain_net_of, free_net
from tests.drawn import all_worlds, draw_lot, draw_net, draw_news, drawn, plain, plain_weight, plain_world_share
from tests.test_needed import NET


def grown_by_words(net, thing, child):
    """The new parents of a child of a thing that is left out."""
    children = [other for other in range(child + 1) if thing in net.things[other][2]]
    lot = set(net.things[thing][2]) | set(children)
    for other in children:
        lot |= set(net.things[other][2])
    return tuple(sorted(lot - {thing, child}))


def sums_of(net, news, lot):
    """For each filling of a lot the sum of the weights of the worlds with these cases."""
    found = {}
    for world in all_worlds(net):
        key = tuple(world[thing] for thing in lot)
        found[key] = found.get(key, 0) + plain_weight(net, news, world)
    return found


def hub(many, count=2):
    """A thing with so many children that have no other parent."""
    row = ((1, count),) * count
    things = [("hub", count, (), (row,))]
    return Net(tuple(things + [("abcdefghijklmnopqrstuvwx"[at], count, (0,), (row,) * count) for at in range(many)]))


class TestThings(ErrorCase):
    def test_examples(self):
        made = without_thing(net=NET, thing=1)
        self.assertEqual(made.things[1], ("c", 2, (0,), (((3, 10), (7, 10)), ((7, 50), (43, 50)))))
        self.assertEqual(names_of(made), ("a", "c", "d"))
        # Without children it just goes.
        self.assertEqual(without_thing(NET, 3), Net(NET.things[:3]))
        self.assertEqual(net_of_lot(net=NET, lot=(0, 1, 2, 3)), NET)
        self.assertEqual(net_of_lot(NET, (0, 1)), Net(NET.things[:2]))

    def test_empty(self):
        alone = Net(NET.things[:1])
        self.refused("empty", without_thing, alone, 0)
        for net in (alone, NET):
            self.refused("empty", net_of_lot, net, ())
        self.refused("empty", question_net, NET, (), ())
        self.assertEqual(net_of_lot(alone, (0,)), alone)

    def test_drawn(self):
        for rng in drawn(120, 340):
            net = draw_net(rng, rng.randint(2, 5))
            thing = rng.randrange(len(net.things))
            made = without_thing(net, thing)
            rest = [at for at in range(len(net.things)) if at != thing]
            for new, old in enumerate(rest):
                name, count, parents, rows = net.things[old]
                lot = grown_by_words(net, thing, old) if thing in parents else parents
                self.assertEqual(made.things[new][:2], (name, count))
                self.assertEqual(tuple(rest[at] for at in made.things[new][2]), lot)
                if thing not in parents:
                    self.assertEqual(made.things[new][3], rows)
                    continue
                sums = sums_of(net, (), lot + (old,))
                fillings = product(*[range(counts_of(net)[at]) for at in lot])
                for filling, row in zip(fillings, made.things[new][3], strict=True):
                    among = [sums[filling + (case,)] for case in range(count)]
                    if sum(among):
                        self.assertEqual([plain(entry) for entry in row], [one / sum(among) for one in among])
            for world, share in sums_of(net, (), rest).items():
                self.assertEqual(plain_world_share(made, world), share)

    def test_lots_drawn(self):
        for rng in drawn(100, 341):
            net = draw_net(rng)
            lot = draw_lot(rng, len(net.things))
            if not lot:
                self.refused("empty", net_of_lot, net, lot)
                continue
            made = net_of_lot(net, lot)
            self.assertEqual(made.things and names_of(made), tuple(names_of(net)[at] for at in lot))
            self.assertEqual(counts_of(made), tuple(counts_of(net)[at] for at in lot))
            for world, share in sums_of(net, (), lot).items():
                self.assertEqual(plain_world_share(made, world), share)

    def test_size(self):
        # The hub, the last child and the other ones have together 2 ** 14 fillings, then 2 ** 15.
        self.assertEqual(without_thing(hub(13), 0).things[12][2], tuple(range(12)))
        self.refused("size", without_thing, hub(14), 0)
        self.refused("size", net_of_lot, hub(14), tuple(range(1, 15)))
        self.assertEqual(len(net_of_lot(hub(14), tuple(range(14))).things), 14)
        self.refused("size", without_thing, hub(6, 5), 0)
        self.assertEqual(without_thing(hub(5, 5), 0).things[4][2], (0, 1, 2, 3))
        # The greatest numbers go first, so that of this hub no children are left.
        self.assertEqual(net_of_lot(hub(20), (0,)), Net(hub(20).things[:1]))
        self.assertEqual(names_of(net_of_lot(chain_net_of(24), (0, 12, 23))), ("a", "m", "x"))

    def test_just_so_many(self):
        # The hub and its children have just 20,000 fillings, or twice as many.
        for counts, many in ((FULL, 9), (FULL + (2,), 10)):
            things = [("hub", 2, (), (HALF,))]
            for at, count in enumerate(counts[:-1]):
                things.append(("abcdefghi"[at], count, (0,), (((1, count),) * count,) * 2))
            if many == 9:
                self.assertEqual(without_thing(Net(tuple(things)), 0).things[7][2], tuple(range(7)))
            else:
                self.refused("size", without_thing, Net(tuple(things)), 0)

    def test_size_in_sequence(self):
        # Left out from the greatest number on, the second hub ties what the first one has to leave.
        count = 6
        row = ((1, count),) * count
        things = [("u", count, (), (row,)), ("v", count, (0,), (row,) * count)]
        for at in range(4):
            things.append(("abcd"[at], count, (1,), (row,) * count))
        # With the first hub left out first, nothing would be too wide.
        self.refused("size", net_of_lot, Net(tuple(things)), (2, 3, 4, 5))
        self.assertEqual(len(without_thing(without_thing(Net(tuple(things)), 0), 0).things), 4)
        self.assertEqual(len(net_of_lot(Net(tuple(things[:5])), (2, 3, 4)).things), 3)


class TestTold(ErrorCase):
    def test_example(self):
        news = ((3, ((1, 1), (0, 1))),)
        made = told_net(net=NET, news=news)
        self.assertEqual(made.things[2][3], (((1, 6), (5, 6)), ((1, 46), (45, 46))))
        self.assertEqual(made.things[3][3], (((1, 1), (0, 1)),) * 2)
        self.assertEqual(told_net(NET, ()), NET)

    def test_drawn(self):
        for rng in drawn(100, 342):
            net = draw_net(rng)
            news = draw_news(rng, net)
            if plain_total(net, news)[0] == 0:
                self.refused("barred", told_net, net, news)
                continue
            made = told_net(net, news)
            total = plain(plain_total(net, news))
            for world in all_worlds(net):
                self.assertEqual(plain_world_share(made, world), plain_weight(net, news, world) / total)
            many = len(net.things)
            for thing in range(many):
                behind = tuple(range(many - 1, thing, -1))
                lot = tuple(at for at in cluster_behind(scopes_in(net), behind, thing) if at != thing)
                self.assertEqual(made.things[thing][:3], net.things[thing][:2] + (lot,))
                sums = sums_of(net, news, lot + (thing,))
                fillings = product(*[range(counts_of(net)[at]) for at in lot])
                for filling, row in zip(fillings, made.things[thing][3], strict=True):
                    among = [sums[filling + (case,)] for case in range(net.things[thing][1])]
                    if sum(among):
                        self.assertEqual([plain(entry) for entry in row], [one / sum(among) for one in among])

    def test_questions_drawn(self):
        for rng in drawn(80, 343):
            net = draw_net(rng)
            news = draw_news(rng, net)
            lot = draw_lot(rng, len(net.things))
            if plain_total(net, news)[0] == 0:
                self.refused("barred", question_net, net, news, lot)
            elif not lot:
                self.refused("empty", question_net, net, news, lot)
            else:
                made = question_net(net=net, news=news, lot=lot)
                self.assertEqual(names_of(made), tuple(names_of(net)[at] for at in lot))
                self.assertEqual(plain_sums(made, (), tuple(range(len(lot)))), plain_shares(net, news, lot))

    def test_errors(self):
        self.refused("barred", told_net, SURE, NO_WORLD)
        self.refused("barred", question_net, SURE, NO_WORLD, (0,))
        # The cluster of the common child of fifteen things: too wide, though nothing is told.
        wide = Net(tuple(("abcdefghijklmnop"[at], 2, (), (HALF,)) for at in range(15))
                   + (("child", 2, tuple(range(14)), (HALF,) * 2 ** 14),))
        self.refused("size", told_net, wide, ())
        self.refused("size", question_net, wide, (), (0,))
        # Behind the leaves the hub's cluster is small; behind a collider its parents are together.
        self.assertEqual(told_net(hub(20), (finding(hub(20), 20, 0),)).things[0][2], ())
        barred = Net(wide.things[:14] + (("sure", 2, (), (((1, 1), (0, 1)),)),) + wide.things[15:])
        self.refused("size", told_net, barred, (finding(barred, 14, 1),))
        many = chain_net_of(24)
        self.assertEqual(len(question_net(many, (finding(many, 23, 1),), (0, 5)).things), 2)

    def test_just_so_many(self):
        for counts in (FULL, FULL[:-1] + (3,)):
            parents = free_net(counts[:-1])
            rows = (((1, counts[-1]),) * counts[-1],) * 10 ** 4
            net = Net(parents.things + (("child", counts[-1], tuple(range(8)), rows),))
            if counts == FULL:
                self.assertEqual(told_net(net, ()).things[8][2], tuple(range(8)))
            else:
                self.refused("size", told_net, net, ())

    def test_size_of_lots(self):
        # What net_of_lot refuses for the net behind the news is refused here, too.
        net = hub(14)
        self.refused("size", question_net, net, (finding(net, 3, 0),), tuple(range(1, 15)))


class TestAnySequence(unittest.TestCase):
    """Arrows, news and things left out one after another; the shares of what is left stay."""

    def test_drawn(self):
        for rng in drawn(80, 344):
            net = draw_net(rng, rng.randint(2, 5))
            news = draw_news(rng, net)
            if plain_total(net, news)[0] == 0:
                continue
            kept = names_of(net)
            due = {kept: sums_of(net, news, range(len(kept)))}
            total = sum(due[kept].values())
            start = net
            for _ in range(rng.randint(2, 6)):
                net, news = self.step(rng, net, news)
                left = names_of(net)
                lot = [kept.index(name) for name in left]
                shares = {}
                for world, weight in due[kept].items():
                    key = tuple(world[at] for at in lot)
                    shares[key] = shares.get(key, 0) + weight / total
                whole = plain(plain_total(net, news))
                for world in all_worlds(net):
                    self.assertEqual(plain_weight(net, news, world) / whole, shares[world])
            self.assertEqual(names_of(start), kept)

    def step(self, rng, net, news):
        """Leave something out."""
        kind = rng.randrange(5)
        free = [at for at in range(len(net.things)) if at not in [thing for thing, _ in heard_news(net, news)]]
        if kind == 0:
            return lean_net(net), news
        if kind == 1:
            return cut_net(net, news), news
        if kind == 2:
            return net, heard_news(net, news)
        if kind == 3 and free and len(net.things) > 1:
            thing = rng.choice(free)
            told = tuple((at - (at > thing), weights) for at, weights in news if at != thing)
            return without_thing(net, thing), told
        if kind == 4 and rng.random() < 0.3:
            return told_net(net, news), ()
        return net, news


if __name__ == "__main__":
    unittest.main()
