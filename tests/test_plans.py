"""Points 83 and 84: costs, best looks and plans."""

import unittest
from fractions import Fraction
from itertools import combinations

from allworlds.choices import best_act, look_gain, look_worth
from allworlds.errors import InvalidNumber
from allworlds.nets import Net, counts_of
from allworlds.plans import best_looks, best_plan, check_costs, is_plan, plan_worth
from allworlds.tables import Table
from tests.cases import FULL, NO_WORLD, SURE, ErrorCase, chain_net_of, free_net, wide_net
from tests.drawn import NO_INTEGERS, NO_TUPLES, Odd, all_worlds, drawn, nest, pair_of, plain, plain_weight
from tests.test_choices import ACTS, NET, draw_choice, plain_rows, worth_in

ONE_ACT = (Table((), (), ((1, 1),)),)


def draw_costs(rng, net):
    """Costs, some of which are 0 and some None."""
    return tuple(rng.choice((None, (0, 1), (1, 9), pair_of(Fraction(rng.randint(0, 9), 7)))) for _ in net.things)


def draw_plan(rng, net, acts, costs, seen=()):
    """Any plan."""
    things = [thing for thing, cost in enumerate(costs) if cost is not None and thing not in seen]
    if not things or rng.random() < 0.4:
        return ("act", rng.randrange(len(acts)))
    thing = rng.choice(things)
    return ("look", thing, tuple(draw_plan(rng, net, acts, costs, seen + (thing,)) for _ in range(counts_of(net)[thing])))


def worth_by_worlds(net, news, acts, costs, plan):
    """The worth of a plan, world by world."""
    total, worth = Fraction(0), Fraction(0)
    for world in all_worlds(net):
        weight = plain_weight(net, news, world)
        told, paid = plan, Fraction(0)
        while told[0] == "look":
            paid += plain(costs[told[1]])
            told = told[2][world[told[1]]]
        worth += weight * (worth_in(acts[told[1]], world) - paid)
        total += weight
    return worth / total


def best_by_words(net, news, acts, costs, most):
    """The greatest worth of a plan, by trying all first looks."""
    def best(cases, left):
        worlds = [world for world in all_worlds(net) if all(world[thing] == case for thing, case in cases.items())]
        weights = [plain_weight(net, news, world) for world in worlds]
        found = [max(sum(weight * worth_in(act, world) for weight, world in zip(weights, worlds)) for act in acts)]
        for thing, cost in enumerate(costs):
            if left and cost is not None and thing not in cases:
                inner = [best({**cases, thing: case}, left - 1) for case in range(counts_of(net)[thing])]
                found.append(sum(inner) - plain(cost) * sum(weights))
        return max(found)
    return best({}, most) / sum(plain_weight(net, news, world) for world in all_worlds(net))


def looks_on_ways(plan):
    """The greatest number of looks on a way."""
    return 0 if plan[0] == "act" else 1 + max(looks_on_ways(inner) for inner in plan[2])


class TestCosts(ErrorCase):
    def test_check(self):
        for value in ((None, (1, 5)), ((0, 1), (7, 2)), (None, None)):
            self.assertIsNone(check_costs(net=NET, value=value))
        wrong = NO_TUPLES + ((), (None,), (None, None, None), ((1, 5), (-1, 5)), ((2, 10), None), (None, (1, 0)), (None, 1),
                             ((1, 1), ()), (False, None), (None, Odd()), (None, (1.0, 1)), nest(100000))
        for value in wrong:
            self.raised(InvalidNumber, "costs", check_costs, NET, value)
            for told in (best_looks, best_plan):
                self.raised(InvalidNumber, "costs", told, NET, (), ACTS, value, None)
        for value in NO_INTEGERS + (-1, -10 ** 400):
            for told in (best_looks, best_plan):
                self.raised(InvalidNumber, "most", told, NET, (), ACTS, (None, (1, 5)), value)


class TestLooks(ErrorCase):
    def test_examples(self):
        self.assertEqual(best_looks(net=NET, news=(), acts=ACTS, costs=(None, (1, 5)), most=3), ((13, 20), (1,)))
        self.assertEqual(best_looks(NET, (), ACTS, (None, (1, 5)), 0), ((0, 1), ()))
        self.assertEqual(best_looks(NET, (), ACTS, (None, (1, 1)), 1), ((0, 1), ()))
        self.assertEqual(best_looks(NET, (), ACTS, (None, None), 1), ((0, 1), ()))
        # The least lot of those with the greatest gain.
        self.assertEqual(best_looks(NET, (), ACTS, (None, (17, 20)), 10 ** 30), ((0, 1), ()))
        self.assertEqual(best_looks(NET, (), ACTS, ((0, 1), (0, 1)), 2), ((5, 4), (0,)))
        same = Net(SURE.things)
        act = (Table((2,), (2,), ((1, 1), (0, 1))), Table((2,), (2,), ((0, 1), (1, 1))))
        self.assertEqual(best_looks(same, (), act, ((0, 1),) * 3, 3), ((1, 2), (0, 1, 2)))
        self.assertEqual(best_looks(same, (), act, ((1, 9), (0, 1), (0, 1)), 3), ((1, 2), (1, 2)))

    def test_drawn(self):
        for rng in drawn(80, 430):
            net, news, acts = draw_choice(rng)
            costs = draw_costs(rng, net)
            most = rng.randint(0, 4)
            things = [thing for thing, cost in enumerate(costs) if cost is not None]
            gains = []
            start = max(plain_rows(net, news, acts, ())[0][1])
            for many in range(min(most, len(things)) + 1):
                for lot in combinations(things, many):
                    worth = sum(max(sums) for _, sums in plain_rows(net, news, acts, lot))
                    gains.append((start - worth + sum(plain(costs[thing]) for thing in lot), lot))
            gain, lot = min(gains)
            self.assertEqual(best_looks(net, news, acts, costs, most), (pair_of(-gain), lot))

    def test_size(self):
        net = wide_net(15)
        free = ((0, 1),) * 15
        barred = ((0, ((1, 1), (0, 1))),)
        sure = Net((("a", 2, (), (((0, 1), (1, 1)),)),) + net.things[1:])
        # There are 1,941 lots of up to four of fifteen things.
        self.assertEqual(best_looks(net, (), ONE_ACT, free, 4), ((0, 1), ()))
        self.refused("size", best_looks, net, (), ONE_ACT, free, 5)
        self.refused("size", best_looks, sure, barred, ONE_ACT, free, 15)
        self.refused("barred", best_looks, sure, barred, ONE_ACT, free, 1)
        self.assertEqual(best_looks(net, (), ONE_ACT, free[:10] + (None,) * 5, 15)[1], ())
        self.refused("size", best_looks, net, (), ONE_ACT, free[:11] + (None,) * 4, 15)
        wide = wide_net(7, 5)
        self.refused("size", best_looks, wide, (), ONE_ACT, ((0, 1),) * 7, 7)
        self.assertEqual(best_looks(wide, (), ONE_ACT, ((0, 1),) * 7, 2)[1], ())


class TestPlans(ErrorCase):
    def test_is_plan(self):
        costs = (None, (1, 5))
        act, look = ("act", 1), ("look", 1, (("act", 1), ("act", 0)))
        self.assertIs(is_plan(net=NET, acts=ACTS, costs=costs, value=act), True)
        self.assertIs(is_plan(NET, ACTS, costs, look), True)
        self.assertIs(is_plan(NET, ACTS, ((0, 1), (0, 1)), ("look", 0, (look, act))), True)
        wrong = NO_TUPLES + ((), ("act",), ("act", 2), ("act", -1), ("act", True), ("act", 0, 0), ("look", 1), ("look", 1, ()),
                             ("look", 1, (act,)), ("look", 1, (act, act, act)), ("look", 1, [act, act]), ("look", 0, (act, act)),
                             ("look", 2, (act, act)), ("look", True, (act, act)), ("look", -1, (act, act)), (Odd(), 1), ("acts", 1),
                             ("seek", 1, (act, act)), ("look", 1, (look, act)), ("look", 1, (act, ("act", 7))), ("look", 1, (act, act), 1), nest(100000))
        for value in wrong:
            self.assertIs(is_plan(NET, ACTS, costs, value), False)
            self.assertIs(is_plan(NET, ACTS, costs, ("look", 1, (act, value))), False)

    def test_examples(self):
        plan = ("look", 1, (("act", 1), ("act", 0)))
        self.assertEqual(best_plan(net=NET, news=(), acts=ACTS, costs=(None, (1, 5)), most=3), ((19, 10), plan))
        self.assertEqual(plan_worth(net=NET, news=(), acts=ACTS, costs=(None, (1, 5)), plan=plan), (19, 10))
        self.assertEqual(plan_worth(NET, (), ACTS, (None, None), ("act", 1)), (5, 4))
        self.assertEqual(best_plan(NET, (), ACTS, (None, (1, 5)), 0), ((5, 4), ("act", 1)))
        self.assertEqual(best_plan(NET, (), ACTS, (None, None), 10 ** 30), ((5, 4), ("act", 1)))

    def test_drawn(self):
        for rng in drawn(80, 431):
            net, news, acts = draw_choice(rng)
            costs = draw_costs(rng, net)
            plan = draw_plan(rng, net, acts, costs)
            self.assertTrue(is_plan(net, acts, costs, plan))
            self.assertEqual(plain(plan_worth(net, news, acts, costs, plan)), worth_by_worlds(net, news, acts, costs, plan))
            most = rng.randint(0, 3)
            things = [thing for thing, cost in enumerate(costs) if cost is not None]
            if sum(counts_of(net)[thing] for thing in things) ** min(most, len(things)) > 2000:
                self.refused("size", best_plan, net, news, acts, costs, most)
                continue
            worth, best = best_plan(net, news, acts, costs, most)
            self.assertTrue(is_plan(net, acts, costs, best))
            self.assertLessEqual(looks_on_ways(best), most)
            self.assertEqual(plan_worth(net, news, acts, costs, best), worth)
            self.assertEqual(plain(worth), best_by_words(net, news, acts, costs, most))

    def test_alike(self):
        for rng in drawn(60, 432):
            net, news, acts = draw_choice(rng)
            costs = draw_costs(rng, net)
            one = plain(best_act(net, news, acts)[0]) + plain(best_looks(net, news, acts, costs, 1)[0])
            self.assertEqual(plain(best_plan(net, news, acts, costs, 1)[0]), one)
            free = tuple(rng.choice((None, (0, 1))) for _ in costs)
            lot = tuple(thing for thing, cost in enumerate(free) if cost is not None)
            if len(lot) < 4:
                self.assertEqual(best_plan(net, news, acts, free, len(lot) + 1)[0], look_worth(net, news, acts, lot))
                self.assertEqual(best_looks(net, news, acts, free, len(lot))[0], look_gain(net, news, acts, lot))

    def test_refused(self):
        net = wide_net(15)
        barred = ((0, ((1, 1), (0, 1))),)
        sure = Net((("a", 2, (), (((0, 1), (1, 1)),)),) + net.things[1:])
        deep = ("act", 0)
        for thing in range(15):
            deep = ("look", thing, (deep, ("act", 0)))
        free = ((0, 1),) * 15
        for other, news in ((net, ()), (sure, barred)):
            self.refused("size", plan_worth, other, news, ONE_ACT, free, deep)
        self.assertEqual(plan_worth(net, (), ONE_ACT, free, deep[2][0]), (1, 1))
        self.refused("barred", plan_worth, SURE, NO_WORLD, ONE_ACT, free[:3], ("act", 0))
        self.refused("barred", best_plan, SURE, NO_WORLD, ONE_ACT, free[:3], 1)
        # Ten things have 20 cases and 2 ** 10 fillings, eleven have 2 ** 11.
        self.assertEqual(best_plan(net, (), ONE_ACT, free[:10] + (None,) * 5, 2)[1], ("act", 0))
        self.refused("size", best_plan, sure, barred, ONE_ACT, free[:10] + (None,) * 5, 3)
        self.refused("size", best_plan, sure, barred, ONE_ACT, free[:11] + (None,) * 4, 1)
        self.refused("size", best_plan, net, (), ONE_ACT, free[:11] + (None,) * 4, 0)
        self.refused("barred", best_plan, sure, barred, ONE_ACT, free[:10] + (None,) * 5, 2)
        # Six things: 12 ** 3 is below 2,000, 12 ** 4 is not.
        self.assertEqual(best_plan(net, (), ONE_ACT, free[:6] + (None,) * 9, 3)[0], (1, 1))
        self.refused("size", best_plan, net, (), ONE_ACT, free[:6] + (None,) * 9, 4)
        self.refused("size", best_plan, net, (), ONE_ACT, free[:6] + (None,) * 9, 10 ** 30)
        self.assertEqual(best_plan(net, (), ONE_ACT, free[:3] + (None,) * 12, 10 ** 30)[0], (1, 1))

    def test_just_so_many(self):
        # Seven things with 2,000 fillings, and nine with 20,000.
        small = (5, 5, 5, 2, 2, 2, 2)
        self.assertEqual(best_plan(free_net(small), (), ONE_ACT, ((0, 1),) * 7, 1)[0], (1, 1))
        self.refused("size", best_plan, free_net(small[:-1] + (3,)), (), ONE_ACT, ((0, 1),) * 7, 1)
        self.assertEqual(best_looks(free_net(FULL), (), ONE_ACT, ((1, 1),) * 9, 9)[1], ())
        self.refused("size", best_looks, free_net(FULL[:-1] + (3,)), (), ONE_ACT, ((1, 1),) * 9, 9)

    def test_far_apart(self):
        net = chain_net_of(24)
        acts = (Table((23,), (2,), ((1, 1), (0, 1))), Table((0,), (2,), ((0, 1), (1, 1))))
        costs = tuple((0, 1) if thing in (0, 22) else None for thing in range(24))
        self.assertEqual(best_plan(net, (), acts, costs, 2)[0], look_worth(net, (), acts, (0, 22)))


if __name__ == "__main__":
    unittest.main()
