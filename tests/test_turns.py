"""Points 59 to 63: changes, turning lots, cheapest turns and their papers."""

import unittest

from allworlds.blockers import least_blockers
from allworlds.errors import InvalidNumber
from allworlds.nets import Net
from allworlds.reasons import is_reason, least_reasons
from allworlds.turns import (
    TurnPaper, changes_in, cheapest_turn, is_turn_paper, is_turning_lot, least_turns, single_turns, stand_count, turn_at,
    turn_paper,
)
from tests.drawn import NO_INTEGERS, NO_TUPLES, Odd, drawn, nest
from tests.questions import (
    changes, draw_asked, fillings, found_filling, least_of_lots, lots_of, plain_answer, plain_reasons, turning_fillings,
)
from tests.test_reasons import BARRED, HUM, QUESTION, QuestionCase, SURE, chain_of, votes

VOTES = votes(3)
ASKED = (("is", 0, (0,)), (1, 2), ((1, 0), (2, 0), (3, 0)))
SETTLED = (("is", 0, ()), (0, 1), ASKED[2])


def told_things(question):
    """The things of the findings."""
    return tuple(thing for thing, _ in question[2])


def cheapest(net, question, costs):
    """The least cost of a filling that turns the answer, or None."""
    known = dict(zip(told_things(question), costs, strict=True))
    found = [sum(known[thing] for thing in changes(question, filling)) for filling in turning_fillings(net, question)]
    return min(found, default=None)


def is_right_tree(reasons, known, cost, lot, tree):
    """Whether a tree of the right kinds is right for a lot, by the words of the document."""
    if tree == ("dear",):
        return cost is not None and sum(known[thing] for thing in lot) >= cost
    if len(tree) != 3 or tree[0] != "reason":
        return False
    _, reason, branches = tree
    if reason not in reasons or set(reason) & set(lot) or len(branches) != len(reason):
        return False
    return all(is_right_tree(reasons, known, cost, lot + (thing,), below) for thing, below in zip(reason, branches))


def dear_lots(tree, lot=()):
    """The lots of the dear leaves of a tree."""
    if tree == ("dear",):
        return [lot]
    return [found for thing, below in zip(tree[1], tree[2]) for found in dear_lots(below, lot + (thing,))]


def draw_tree_of(rng, reasons, known, cost, lot=()):
    """Some right tree with any reasons."""
    if cost is not None and sum(known[thing] for thing in lot) >= cost and rng.random() < 0.9:
        return ("dear",)
    beside = [reason for reason in reasons if not set(reason) & set(lot)]
    if not beside:
        return ("dear",)
    reason = rng.choice(beside)
    return ("reason", reason, tuple(draw_tree_of(rng, reasons, known, cost, lot + (thing,)) for thing in reason))


class TestTurns(QuestionCase):
    def test_example(self):
        self.assertEqual(least_turns(VOTES, ASKED), ((1, 2), (1, 3), (2, 3)))
        self.assertEqual(least_blockers(((1, 2), (1, 3), (2, 3))), ((1, 2), (1, 3), (2, 3)))
        self.assertEqual(single_turns(VOTES, ASKED), ())
        self.assertEqual((cheapest_turn(VOTES, ASKED, (5, 1, 2))[0], stand_count(VOTES, ASKED)), (3, 1))

    def test_names_of_parameters(self):
        self.assertEqual(changes_in(question=ASKED, filling=(0, 1, 1)), (2, 3))
        self.assertEqual(single_turns(net=HUM, question=QUESTION), ((1, 1),))
        self.assertIs(is_turning_lot(net=HUM, question=QUESTION, value=(1,)), True)
        self.assertEqual(turn_at(net=HUM, question=QUESTION, lot=(1,)), (1,))
        self.assertEqual(least_turns(net=HUM, question=QUESTION), ((1,),))
        self.assertEqual(cheapest_turn(net=HUM, question=QUESTION, costs=(4,)), (4, (1,)))
        self.assertEqual(stand_count(net=HUM, question=QUESTION), 0)
        paper = turn_paper(net=HUM, question=QUESTION, costs=(4,))
        self.assertIs(is_turn_paper(net=HUM, question=QUESTION, costs=(4,), value=paper), True)

    def test_barred(self):
        paper = TurnPaper(None, None, ("reason", (), ()))
        for told, values in ((single_turns, ()), (is_turning_lot, ((),)), (is_turning_lot, (None,)), (turn_at, ((),)),
                             (least_turns, ()), (cheapest_turn, ((1,),)), (cheapest_turn, (None,)), (stand_count, ()),
                             (turn_paper, ((1,),)), (turn_paper, (None,)), (is_turn_paper, ((1,), paper)),
                             (is_turn_paper, (None, None))):
            self.refused("barred", told, SURE, BARRED, *values)
        half = ((1, 2), (1, 2))
        net = Net(SURE.things + tuple(("cdefghijklm"[at], 2, (), (half,)) for at in range(10)))
        many = (BARRED[0], BARRED[1], ((0, 1),) + tuple((at, 0) for at in range(2, 12)))
        self.refused("barred", least_turns, net, many)

    def test_changes(self):
        self.assertEqual(changes_in(ASKED, (0, 0, 0)), ())
        self.assertEqual(changes_in(ASKED, (1, 0, 1)), (1, 3))
        self.assertEqual(changes_in((ASKED[0], ASKED[1], ()), ()), ())
        for rng in drawn(30, 190):
            net, question = draw_asked(rng)
            for filling in fillings(net, told_things(question)):
                self.assertEqual(changes_in(question, filling), changes(question, filling))

    def test_drawn(self):
        several = 0
        for rng in drawn(150, 191):
            net, question = draw_asked(rng)
            told = told_things(question)
            turning = turning_fillings(net, question)
            lots = [changes(question, filling) for filling in turning]
            found = found_filling(question)
            single = sorted((thing, filling[at]) for filling in turning for at, thing in enumerate(told)
                            if changes(question, filling) == (thing,))
            self.assertEqual(single_turns(net, question), tuple(single))
            reasons = plain_reasons(net, question)
            for lot in lots_of(told):
                is_one = any(set(one) <= set(lot) for one in lots)
                self.assertIs(is_turning_lot(net, question, lot), is_one)
                self.assertIs(is_one, tuple(thing for thing in told if thing not in lot) not in reasons)
                filling = turn_at(net, question, lot)
                if is_one:
                    self.assertIn(filling, turning)
                    self.assertTrue(set(changes(question, filling)) <= set(lot))
                else:
                    self.assertIsNone(filling)
            least = least_turns(net, question)
            self.assertEqual(least, least_of_lots(set(lots)))
            self.assertEqual(least_blockers(least), least_reasons(net, question))
            self.assertIs(not turning, least_reasons(net, question) == ((),))
            stand = stand_count(net, question)
            self.assertEqual(stand, min([len(lot) for lot in lots], default=0) - 1 if lots else None)
            self.assertNotIn(found, turning)
            several += len(least) > 1
        self.assertGreater(several, 10)

    def test_any_lot(self):
        for value in NO_TUPLES + ((0,), (2, 1), (1, 1), (-1,), (4,), (1, 4), [1, 2], nest(100000), ((1, 2),)):
            self.assertIs(is_turning_lot(VOTES, ASKED, value), False)
        for item in NO_INTEGERS + (Odd(),):
            self.assertIs(is_turning_lot(VOTES, ASKED, (item, 2, 3)), False)
            self.assertIs(is_turning_lot(VOTES, ASKED, (2, item)), False)
        self.assertIs(is_turning_lot(VOTES, ASKED, (True, 2)), False)
        self.assertIs(is_turning_lot(VOTES, ASKED, (1, 2)), True)
        self.assertIs(is_turning_lot(VOTES, ASKED, ()), False)

    def test_nothing_turns(self):
        self.assertEqual((least_turns(VOTES, SETTLED), single_turns(VOTES, SETTLED)), ((), ()))
        self.assertIsNone(cheapest_turn(VOTES, SETTLED, (0, 0, 0)))
        self.assertIsNone(stand_count(VOTES, SETTLED))
        self.assertIsNone(turn_at(VOTES, SETTLED, (1, 2, 3)))
        none = (ASKED[0], ASKED[1], ())
        self.assertEqual((least_turns(VOTES, none), cheapest_turn(VOTES, none, ()), stand_count(VOTES, none)), ((), None, None))

    def test_size(self):
        net = votes(12)
        question = (ASKED[0], ASKED[1], tuple((at, 0) for at in range(1, 11)))
        self.assertEqual(len(least_turns(net, question)), 210)
        question = (ASKED[0], ASKED[1], tuple((at, 0) for at in range(1, 12)))
        self.refused("size", least_turns, net, question)
        self.assertEqual(stand_count(net, question), 5)


class TestCheapest(QuestionCase):
    def test_drawn(self):
        none = 0
        for rng in drawn(150, 192):
            net, question = draw_asked(rng)
            told = told_things(question)
            for _ in range(2):
                costs = tuple(rng.choice((0, 0, 1, 1, 2, 3, 7, 10 ** 30)) for _ in told)
                due = cheapest(net, question, costs)
                turn = cheapest_turn(net, question, costs)
                if due is None:
                    self.assertIsNone(turn)
                    none += 1
                    continue
                cost, filling = turn
                self.assertEqual(cost, due)
                self.assertIn(filling, turning_fillings(net, question))
                known = dict(zip(told, costs))
                self.assertEqual(sum(known[thing] for thing in changes(question, filling)), due)
        self.assertGreater(none, 30)

    def test_costs_of_0(self):
        self.assertEqual(cheapest_turn(VOTES, ASKED, (0, 0, 0))[0], 0)
        self.assertEqual(cheapest_turn(VOTES, ASKED, (0, 5, 0)), (0, (1, 0, 1)))
        paper = turn_paper(VOTES, ASKED, (0, 0, 0))
        self.assertEqual((paper.cost, paper.tree), (0, ("dear",)))
        self.assertIs(is_turn_paper(VOTES, ASKED, (0, 0, 0), paper), True)

    def test_wrong_costs(self):
        paper = turn_paper(VOTES, ASKED, (1, 1, 1))
        wrong = NO_TUPLES + ((), (1, 1), (1, 1, 1, 1), [1, 1, 1], (1, 1, -1), (True, 1, 1), nest(100000))
        wrong += tuple((1, item, 1) for item in NO_INTEGERS)
        for value in wrong:
            for told in (lambda: cheapest_turn(VOTES, ASKED, value), lambda: turn_paper(VOTES, ASKED, value),
                         lambda: is_turn_paper(VOTES, ASKED, value, paper), lambda: is_turn_paper(VOTES, ASKED, value, None)):
                with self.assertRaises(InvalidNumber) as caught:
                    told()
                self.assertEqual(caught.exception.word, "costs")

    def test_many_told(self):
        net = chain_of(24)
        question = (("is", 12, (0,)), (3, 4), tuple((at, 0) for at in range(24) if at != 12))
        told = told_things(question)
        self.assertEqual(stand_count(net, question), 0)
        self.assertEqual(single_turns(net, question), ((11, 1), (13, 1)))
        costs = tuple(5 if at in (11, 13) else 0 for at in told)
        cost, filling = cheapest_turn(net, question, costs)
        self.assertEqual(cost, 5)
        self.assertTrue({11, 13} & set(changes(question, filling)))
        paper = turn_paper(net, question, costs)
        self.assertIs(is_turn_paper(net, question, costs, paper), True)
        self.assertIs(is_turn_paper(net, question, (1,) * 23, paper), False)

    def test_thirteen_votes(self):
        """As many as can be put together with what they tell of."""
        net = votes(13)
        question = (ASKED[0], ASKED[1], tuple((at, 0) for at in range(1, 14)))
        self.assertEqual(stand_count(net, question), 6)
        costs = tuple(7 * at % 13 + 10 ** 20 for at in range(13))
        cost, filling = cheapest_turn(net, question, costs)
        self.assertEqual(cost, sum(sorted(costs)[:7]))
        self.assertEqual(filling, tuple(int(one in sorted(costs)[:7]) for one in costs))

    def test_eleven_votes(self):
        net = votes(11)
        question = (ASKED[0], ASKED[1], tuple((at, 0) for at in range(1, 12)))
        costs = tuple(range(11))
        self.assertEqual(cheapest_turn(net, question, costs)[0], sum(range(6)))
        question = (ASKED[0], ASKED[1], tuple((at, int(at % 4 == 0)) for at in range(1, 12)))
        self.assertEqual(stand_count(net, question), 3)


class TestPapers(QuestionCase):
    def judged(self, net, question, costs, value):
        told = is_turn_paper(net, question, costs, value)
        self.assertIs(type(told), bool)
        return told

    def test_attributes(self):
        odd = [1]
        paper = TurnPaper(cost=odd, filling=None, tree=3)
        self.assertEqual(vars(paper), {"cost": [1], "filling": None, "tree": 3})
        self.assertIs(paper.cost, odd)

    def test_made(self):
        for rng in drawn(120, 193):
            net, question = draw_asked(rng)
            told = told_things(question)
            costs = tuple(rng.choice((0, 1, 1, 2, 5)) for _ in told)
            paper = turn_paper(net, question, costs)
            self.assertEqual(paper.cost, cheapest(net, question, costs))
            self.assertEqual(paper.filling is None, paper.cost is None)
            reasons = plain_reasons(net, question)
            self.assertTrue(is_right_tree(reasons, dict(zip(told, costs)), paper.cost, (), paper.tree))
            self.assertTrue(self.judged(net, question, costs, paper))
            # A turning lot has a thing of each reason, so all things of some dear leaf.
            dear = dear_lots(paper.tree)
            for filling in turning_fillings(net, question):
                lot = changes(question, filling)
                self.assertTrue(any(set(leaf) <= set(lot) for leaf in dear))

    def test_drawn(self):
        right = wrong = 0
        for rng in drawn(400, 194):
            net, question = draw_asked(rng)
            told = told_things(question)
            costs = tuple(rng.choice((0, 1, 1, 2)) for _ in told)
            known = dict(zip(told, costs))
            turning, reasons = turning_fillings(net, question), plain_reasons(net, question)
            some = turning if turning and rng.random() < 0.8 else fillings(net, told)
            filling = rng.choice(some)
            cost = sum(known[thing] for thing in changes(question, filling))
            if rng.random() < 0.1:
                cost += rng.choice((-1, 1))
            if rng.random() < 0.2:
                cost = filling = None
            listed = reasons if rng.random() < 0.8 else lots_of(told)
            tree = draw_tree_of(rng, listed, known, cost)
            due = is_right_tree(reasons, known, cost, (), tree)
            if filling is not None:
                due = due and filling in turning and cost == sum(known[thing] for thing in changes(question, filling))
            self.assertIs(self.judged(net, question, costs, TurnPaper(cost, filling, tree)), due)
            right, wrong = right + due, wrong + (not due)
            if due:
                self.assertEqual(cost, cheapest(net, question, costs))
        self.assertGreater(min(right, wrong), 50)

    def test_none(self):
        paper = turn_paper(VOTES, SETTLED, (1, 1, 1))
        self.assertEqual((paper.cost, paper.filling, paper.tree), (None, None, ("reason", (), ())))
        self.assertTrue(self.judged(VOTES, SETTLED, (1, 1, 1), paper))
        self.assertFalse(self.judged(VOTES, SETTLED, (1, 1, 1), TurnPaper(None, None, ("dear",))))
        self.assertFalse(self.judged(VOTES, SETTLED, (1, 1, 1), TurnPaper(0, None, paper.tree)))
        self.assertFalse(self.judged(VOTES, SETTLED, (1, 1, 1), TurnPaper(None, (0, 0, 0), paper.tree)))
        self.assertFalse(self.judged(VOTES, SETTLED, (1, 1, 1), TurnPaper(0, (0, 0, 0), paper.tree)))
        beside = ("reason", (1,), (("reason", (2, 3), (("reason", (), ()), ("reason", (), ()))),))
        self.assertTrue(self.judged(VOTES, SETTLED, (1, 1, 1), TurnPaper(None, None, beside)))
        self.assertIs(is_reason(VOTES, SETTLED, (1,)), True)

    def test_any_value(self):
        costs = (1, 1, 1)
        paper = turn_paper(VOTES, ASKED, costs)
        cost, filling, tree = paper.cost, paper.filling, paper.tree
        self.assertEqual((cost, tree[0], len(tree)), (2, "reason", 3))
        self.assertTrue(self.judged(VOTES, ASKED, costs, paper))
        for value in NO_TUPLES + ((), nest(100000), (cost, filling, tree), ("dear",), ("reason",), ("dear", ()), (None,)):
            self.assertFalse(self.judged(VOTES, ASKED, costs, value))
            self.assertFalse(self.judged(VOTES, ASKED, costs, TurnPaper(value, filling, tree)))
            self.assertFalse(self.judged(VOTES, ASKED, costs, TurnPaper(cost, value, tree)))
            if value is not None:
                self.assertFalse(self.judged(VOTES, ASKED, costs, TurnPaper(value, None, tree)))
                self.assertFalse(self.judged(VOTES, ASKED, costs, TurnPaper(None, value, tree)))
            wrong = [value, (value,) + tree[1:], (tree[0], value, tree[2]), tree[:2] + (value,), tree + (value,), (tree[0], value),
                     tree[:2] + ((value,) + tree[2][1:],), tree[:2] + (tree[2] + (value,),), (tree[0], (value, 3), tree[2])]
            for other in wrong:
                self.assertFalse(self.judged(VOTES, ASKED, costs, TurnPaper(cost, filling, other)))
        for item in NO_INTEGERS + (Odd(), -1, 2):
            self.assertFalse(self.judged(VOTES, ASKED, costs, TurnPaper(cost, (item,) + filling[1:], tree)))
        for wrong in (filling[:-1], filling + (0,), filling + filling, ()):
            self.assertFalse(self.judged(VOTES, ASKED, costs, TurnPaper(cost, wrong, tree)))
        none = (ASKED[0], ASKED[1], ())
        for wrong in ((0,), (0, 1)):
            self.assertFalse(self.judged(VOTES, none, (), TurnPaper(0, wrong, ("dear",))))
        self.assertEqual(tree[2][0][2][0], ("dear",))
        for leaf in (("dear", ()), ("dear", 1), ("dear", None), ["dear"], "dear", ("near",), ("dear", "dear"), ()):
            below = tree[2][0][:2] + ((leaf,) + tree[2][0][2][1:],)
            self.assertFalse(self.judged(VOTES, ASKED, costs, TurnPaper(cost, filling, tree[:2] + ((below,) + tree[2][1:],))))
        for wrong in (0, 1, 3, True, 2.0):
            self.assertFalse(self.judged(VOTES, ASKED, costs, TurnPaper(wrong, filling, tree)))
        self.assertFalse(self.judged(VOTES, ASKED, costs, TurnPaper(cost, list(filling), tree)))
        self.assertFalse(self.judged(VOTES, ASKED, costs, TurnPaper(0, (0, 0, 0), ("dear",))))
        self.assertFalse(self.judged(VOTES, ASKED, costs, TurnPaper(3, (1, 1, 1), tree)))
        deep = ("dear",)
        for _ in range(50000):
            deep = ("reason", (1,), (deep,))
        self.assertFalse(self.judged(VOTES, ASKED, costs, TurnPaper(cost, filling, deep)))

    def test_no_cost_with_dear_leaves(self):
        tree = turn_paper(VOTES, ASKED, (1, 1, 1)).tree
        self.assertFalse(self.judged(VOTES, ASKED, (1, 1, 1), TurnPaper(None, None, tree)))
        self.assertIs(plain_answer(VOTES, ASKED), True)


if __name__ == "__main__":
    unittest.main()
