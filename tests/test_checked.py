"""Of point 95 the judge of runs, and point 96: statements."""

import unittest

from allworlds.bestpapers import BestPaper
from allworlds.checked import is_so, not_so, run_fault
from allworlds.likely import best_paper
from allworlds.nets import Net
from allworlds.papers import Paper, paper_of
from allworlds.reasons import Reason, reason_paper
from allworlds.runs import run_with_papers
from allworlds.scripts import read_script
from allworlds.tables import Table
from allworlds.turns import TurnPaper, turn_paper
from tests.cases import HALF, NO_WORLD, SURE, chain_net_of, wide_net
from tests.drawn import NO_TUPLES, Odd, draw_net, drawn, nest
from tests.test_runs import KILN, SCRIPT, PlainRun, draw_command, right
from tests.test_turns import ASKED, VOTES

COMMANDS = read_script(KILN, SCRIPT)
ANSWERS = run_with_papers(KILN, COMMANDS)
FOUND = ((1, ((1, 1), (0, 1))),)
QUESTION = (("is", 0, (0,)), (1, 2), ((1, 0),))


def exchanged(items, at, item):
    """A tuple with another item at a place."""
    return items[:at] + (item,) + items[at + 1:]


class TestRuns(unittest.TestCase):
    def wrong(self, at, value, net=KILN, commands=COMMANDS, answers=ANSWERS):
        """Ask that an answer is wrong in place of the right one."""
        self.assertEqual(run_fault(net, commands, exchanged(answers, at, value)), at)

    def test_right(self):
        self.assertIsNone(run_fault(net=KILN, commands=COMMANDS, answers=ANSWERS))
        self.assertIsNone(run_fault(KILN, (), ()))
        for many in range(len(COMMANDS)):
            self.assertEqual(run_fault(KILN, COMMANDS, ANSWERS[:many]), many)
            self.assertEqual(run_fault(KILN, COMMANDS[:many], ANSWERS), many)
            self.assertIsNone(run_fault(KILN, COMMANDS[:many], ANSWERS[:many]))
        for value in NO_TUPLES:
            self.assertEqual(run_fault(KILN, COMMANDS, value), 0)
            self.assertEqual(run_fault(KILN, (), value), 0)
        self.assertEqual(run_fault(KILN, (), nest(100000)), 0)

    def test_any_pair(self):
        for at, (result, paper) in enumerate(ANSWERS):
            for value in NO_TUPLES + ((), (result,), (result, paper, None), (paper, result), (result, Odd()), (Odd(), paper),
                                      [result, paper], nest(100000), (nest(100000), paper), (result, nest(100000))):
                self.wrong(at, value)
            for value in NO_TUPLES + ((), result[:-1], result + (None,), ("refused", "barred"), ("ok", "ok"), ("none",)):
                self.wrong(at, (value, paper))
            for value in NO_TUPLES + ((), nest(100000)):
                self.wrong(at, ((value,) + result[1:], paper))
                if len(result) > 1:
                    self.wrong(at, (result[:1] + (value,), paper)) if value is not True else None
        # The first one that is wrong is named.
        self.assertEqual(run_fault(KILN, COMMANDS, exchanged(exchanged(ANSWERS, 5, None), 3, None)), 3)

    def test_kinds(self):
        share = ((("put", 0, ((0, 1), (1, 1))), ("share", ("is", 0, (1,))), ("total",)))
        answers = run_with_papers(KILN, share)
        self.assertEqual(answers[1][0], ("share", (1, 1)))
        for value in ((True, 1), (1, True), (1.0, 1), [1, 1], (2, 2)):
            self.wrong(1, (("share", value), answers[1][1]), KILN, share, answers)
        for value in (1, "yes", None, False, (True,)):
            self.wrong(2, (("answer", value), ANSWERS[2][1]))
        asked = (("ask", (1, 1), ("is", 0, (1,))),)
        self.wrong(0, (("answer", 0), run_with_papers(KILN, asked)[0][1]), KILN, asked, run_with_papers(KILN, asked))
        self.wrong(3, (("reason", (True,)), ANSWERS[3][1]))
        self.wrong(4, (("turn", ((1, True),)), ANSWERS[4][1]))
        self.wrong(4, (("turn", ((True, 1),)), ANSWERS[4][1]))
        self.wrong(4, (("turn", [(1, 1)]), ANSWERS[4][1]))
        worlds = ANSWERS[6][0][1]
        self.wrong(6, (("worlds", list(worlds)), ANSWERS[6][1]))
        self.wrong(6, (("worlds", (((5, 8), (True, 1)), worlds[1])), ANSWERS[6][1]))
        self.wrong(6, (("worlds", worlds[:1]), ANSWERS[6][1]))
        self.wrong(6, (("worlds", worlds[::-1]), ANSWERS[6][1]))

    def test_deeds(self):
        commands = (("take", 1), ("put", 1, HALF), ("back",), ("back",), ("rows", 0, (HALF,)))
        answers = run_with_papers(KILN, commands)
        self.assertEqual(answers, ((("refused", "none"), None), (("ok",), None), (("ok",), None), (("refused", "first"), None),
                                   (("ok",), None)))
        self.assertIsNone(run_fault(KILN, commands, answers))
        for at in range(5):
            for value in ((("ok",), 0), (("ok",), ()), (("ok",), paper_of(KILN, ())), (("refused", "thing"), None),
                          (("refused", "first") if at != 3 else ("refused", "none"), None), (["ok"], None), ("ok", None)):
                self.wrong(at, value, KILN, commands, answers)
        self.assertEqual(run_fault(KILN, commands, exchanged(answers, 0, (("ok",), None))), 0)

    def test_papers(self):
        tree = (((0, 1), (0,)), (-1, 0))
        other = paper_of(KILN, FOUND, tree)
        # Any right paper of the present news will do, one of other news will not.
        self.assertIsNone(run_fault(KILN, COMMANDS, exchanged(ANSWERS, 2, (("answer", True), other))))
        self.wrong(0, (ANSWERS[0][0], other))
        self.wrong(2, (ANSWERS[2][0], paper_of(KILN, (), tree)))
        self.wrong(2, (("answer", False), other))
        self.wrong(2, (ANSWERS[2][0], None))
        self.wrong(2, (ANSWERS[2][0], (other, other)))
        self.wrong(0, (("shares", ((1, 4), (3, 4), (0, 1))), ANSWERS[0][1]))
        self.wrong(0, (("shares", ((3, 4), (1, 4))), ANSWERS[0][1]))
        self.wrong(0, (("share", (1, 4)), ANSWERS[0][1]))
        self.wrong(0, (("total", (1, 1)), ANSWERS[0][1]))

    def test_reasons(self):
        reason, turns = ANSWERS[3][1]
        self.wrong(3, (ANSWERS[3][0], reason))
        self.wrong(3, (ANSWERS[3][0], (reason,)))
        self.wrong(3, (ANSWERS[3][0], (reason, turns, ())))
        for value in NO_TUPLES + ((), turns * 2, ((0,),), ((2,),), ((1, 1),), ((),), ([1],), ((True,),), (None,), (Odd(),), nest(100000)):
            self.wrong(3, (ANSWERS[3][0], (reason, value)))
        self.wrong(3, (("reason", ()), (reason, turns)))
        for paper in (None, Odd(), Reason((), reason.sequence, reason.messages), Reason(reason.lot, reason.sequence, ())):
            self.wrong(3, (ANSWERS[3][0], (paper, turns)))

    def test_other_reasons(self):
        # Two of three votes are a reason; any two may be told, three may not.
        commands = tuple(("put", at, ((1, 1), (0, 1))) for at in (1, 2, 3)) + (("why", (1, 2), ASKED[0]),)
        answers = run_with_papers(VOTES, commands)
        self.assertEqual(answers[3][0], ("reason", (2, 3)))
        self.assertIsNone(run_fault(VOTES, commands, answers))
        for lot, turns in (((1, 2), ((1, 0, 1), (0, 1, 1))), ((1, 3), ((1, 1, 0), (0, 1, 1)))):
            pair = (("reason", lot), (reason_paper(VOTES, ASKED, lot), turns))
            self.assertIsNone(run_fault(VOTES, commands, exchanged(answers, 3, pair)))
            self.wrong(3, (pair[0], (pair[1][0], turns[::-1])), VOTES, commands, answers)
            # Changes at another thing of the lot do not tell that this one is needed.
            self.wrong(3, (pair[0], (pair[1][0], ((1, 1, 1),) + turns[1:])), VOTES, commands, answers)
        paper = reason_paper(VOTES, ASKED, (1, 2, 3))
        for turns in ((), ((1, 1, 1),) * 3, ((1, 0, 0), (0, 1, 0), (0, 0, 1))):
            self.wrong(3, (("reason", (1, 2, 3)), (paper, turns)), VOTES, commands, answers)

    def test_turns(self):
        commands = tuple(("put", at, ((1, 1), (0, 1))) for at in (1, 2, 3)) + (("turn", (1, 2), ASKED[0]),)
        answers = run_with_papers(VOTES, commands)
        paper = answers[3][1]
        self.assertEqual(len(answers[3][0][1]), 2)
        for filling, pairs in (((1, 1, 0), ((1, 1), (2, 1))), ((0, 1, 1), ((2, 1), (3, 1))), ((1, 0, 1), ((1, 1), (3, 1)))):
            pair = (("turn", pairs), TurnPaper(2, filling, paper.tree))
            self.assertIsNone(run_fault(VOTES, commands, exchanged(answers, 3, pair)))
            self.wrong(3, (("turn", pairs[:1]), pair[1]), VOTES, commands, answers)
            self.wrong(3, (("turn", pairs[::-1]), pair[1]), VOTES, commands, answers)
            self.wrong(3, (("none",), pair[1]), VOTES, commands, answers)
        self.wrong(3, (("turn", ((1, 1), (2, 1), (3, 1))), TurnPaper(3, (1, 1, 1), paper.tree)), VOTES, commands, answers)
        for value in (None, Odd(), TurnPaper(None, None, paper.tree), TurnPaper(2, (1, 1, 0), ("dear",))):
            self.wrong(3, (answers[3][0], value), VOTES, commands, answers)
        # Papers for other costs are none.
        self.wrong(3, (answers[3][0], turn_paper(VOTES, ASKED, (2, 2, 2))), VOTES, commands, answers)
        none = (("turn", (0, 1), ("is", 0, (0,))),)
        answers = run_with_papers(KILN, none)
        self.assertEqual(answers[0][0], ("none",))
        self.assertIsNone(run_fault(KILN, none, answers))
        self.wrong(0, (("turn", ()), answers[0][1]), KILN, none, answers)

    def test_worlds(self):
        paper, best = ANSWERS[6][1]
        result = ANSWERS[6][0]
        for value in (None, paper, best, (paper,), (best, paper), (paper, best, None), [paper, best], (paper, None),
                      (paper, best_paper(KILN, (), (0, 1), 1)), (paper, best_paper(KILN, (), (0, 1), 3)),
                      (paper, best_paper(KILN, (), (0,), 2)), (paper, best_paper(KILN, FOUND, (0, 1), 2)),
                      (paper_of(KILN, FOUND), best), (paper, BestPaper(best.lot, best.sequence, best.messages, ()))):
            self.wrong(6, (result, value))
        # A listing of a lot that has not all things, and a paper that has the total only.
        some = best_paper(KILN, (), (0,), 2)
        self.wrong(6, (("worlds", (((3, 4), (1,)), ((1, 4), (0,)))), (paper, some)))
        broken = Paper(paper.tree, paper.homes, paper.up, (Table((), (), ((2, 1),)),) + paper.down[1:])
        self.wrong(6, (result, (broken, best)))
        other = best_paper(KILN, (), (0, 1), 2)
        turned = BestPaper(other.lot, other.sequence, other.messages, other.listing)
        self.assertIsNone(run_fault(KILN, COMMANDS, exchanged(ANSWERS, 6, (result, (paper, turned)))))

    def test_refusals(self):
        net = Net((("a", 2, (), (((0, 1), (1, 1)),)),) + wide_net(15).things[1:])
        many = ("or",) + tuple(("is", thing, (1,)) for thing in range(15))
        small = ("is", 3, (0,))
        commands = (("share", many), ("put", 0, ((1, 1), (0, 1))), ("shares", 1), ("share", small), ("ask", (1, 2), small),
                    ("best", 1), ("why", (1, 2), small), ("turn", (1, 2), small), ("put", 1, HALF), ("why", (1, 2), small))
        answers = run_with_papers(net, commands)
        self.assertIsNone(run_fault(net, commands, answers))
        barred = ("refused", "barred")
        for at in range(2, 8):
            self.assertEqual(answers[at][0], barred)
            for value in ((barred, None), (barred, paper_of(net, ())), (barred, (answers[at][1],)), (("refused", "size"), None),
                          (("refused", "weights"), None), (("total", (0, 1)), answers[at][1])):
                self.wrong(at, value, net, commands, answers)
        for result in (("shares", ((1, 2), (1, 2))), ("worlds", ()), ("reason", ()), ("none",), ("answer", False)):
            for at in range(2, 8):
                for paper in (answers[at][1], None, (answers[at][1], best_paper(net, (), tuple(range(15)), 1))):
                    self.wrong(at, (result, paper), net, commands, answers)
        # There are no worlds, and a right paper of this, but no answer.
        best = best_paper(net, ((0, ((1, 1), (0, 1))),), tuple(range(15)), 1)
        self.assertEqual(best.listing, ())
        self.wrong(5, (("worlds", ()), (answers[5][1], best)), net, commands, answers)
        for at, word in ((0, "size"), (9, "weights")):
            self.assertEqual(answers[at], (("refused", word), None))
            for value in ((("refused", word), answers[2][1]), (barred, answers[2][1]), (("refused", "weights" if at == 0 else "size"), None),
                          (["refused", word], None), (("refused", word), ())):
                self.wrong(at, value, net, commands, answers)
        # Where no world is left, there is nothing in place of the refusal.
        for value in NO_TUPLES + ((), ("refused",), ("refused", None), ("refused", Odd()), [*barred], barred + (None,), (barred, None)):
            for at in range(2, 8):
                self.wrong(at, (value, answers[at][1]), net, commands, answers)
                self.assertFalse(is_so(("answer", net, (commands[1][1:],), commands[at], value, answers[at][1])))
        # The total itself is never refused.
        self.wrong(0, (barred, answers[2][1]), net, (("total",),), run_with_papers(net, (("total",),)))
        paper = paper_of(SURE, NO_WORLD)
        self.assertFalse(is_so(("answer", SURE, NO_WORLD, ("total",), barred, paper)))
        self.assertTrue(is_so(("answer", SURE, NO_WORLD, ("total",), ("total", (0, 1)), paper)))

    def test_drawn(self):
        for rng in drawn(60, 450):
            net = draw_net(rng, rng.randint(1, 4))
            commands = tuple(draw_command(rng, net) for _ in range(8))
            answers = run_with_papers(net, commands)
            self.assertIsNone(run_fault(net, commands, answers))
            # Answers exchanged, or put in the place of others: what stays right is a result that is due.
            at, other = rng.randrange(8), rng.randrange(8)
            spoilt = exchanged(answers, at, answers[other])
            fault = run_fault(net, commands, spoilt)
            beside = PlainRun(net)
            for command, (result, _) in zip(commands[:fault], spoilt):
                is_deed = command[0] in ("put", "take", "rows", "back")
                due = beside.deed(command) if is_deed else beside.asked(command)
                self.assertTrue(right(due, result))
            self.assertIn(fault, (None, at))


class TestStatements(unittest.TestCase):
    def test_so(self):
        paper = paper_of(KILN, FOUND)
        statements = (
            ("paper", KILN, FOUND, paper), ("worlds", KILN, FOUND, 2, best_paper(KILN, FOUND, (0,), 2)),
            ("reason", KILN, QUESTION, reason_paper(KILN, QUESTION, (1,))), ("turn", KILN, QUESTION, (3,), turn_paper(KILN, QUESTION, (3,))),
            ("answer", KILN, FOUND, ("ask", (1, 2), ("is", 0, (0,))), ("answer", True), paper), ("run", KILN, COMMANDS, ANSWERS),
            ("answer", KILN, FOUND, ("why", (1, 2), ("is", 0, (0,))), ("reason", (1,)), ANSWERS[3][1]),
            ("answer", KILN, (), ("best", 2), ANSWERS[6][0], ANSWERS[6][1]))
        for statement in statements:
            self.assertIs(is_so(value=statement), True)
            for at in range(len(statement)):
                # Whatever is spoilt, it is no longer so.
                for value in NO_TUPLES + (nest(100000), SURE if at == 1 else (None,)):
                    if statement[0] == "worlds" and at == 3 and type(value) is int and value > 0:
                        continue
                    self.assertIs(is_so(exchanged(statement, at, value)), False, (statement[0], at))
            self.assertFalse(is_so(statement[:-1]))
            self.assertFalse(is_so(statement + (None,)))
            self.assertFalse(is_so(list(statement)))
        for value in NO_TUPLES + ((), ("paper",), ("law",), ("law", KILN), nest(100000), (Odd(), KILN, FOUND, paper)):
            self.assertIs(is_so(value), False)
        best = best_paper(KILN, FOUND, (0,), 1)
        self.assertTrue(is_so(("worlds", KILN, FOUND, 1, best)))
        for many in (0, -1):
            self.assertFalse(is_so(("worlds", KILN, FOUND, many, best)))
            self.assertFalse(is_so(("worlds", KILN, FOUND, many, BestPaper(best.lot, best.sequence, best.messages, ()))))
        self.assertTrue(is_so(("run", KILN, (), ())))
        self.assertEqual(not_so(values=statements), ())
        self.assertEqual(not_so((1,) + statements + ((), ("paper", KILN, (), paper))), (0, len(statements) + 1, len(statements) + 2))
        self.assertEqual(not_so(()), ())

    def test_other_nets_and_news(self):
        paper = paper_of(KILN, FOUND)
        self.assertFalse(is_so(("paper", KILN, (), paper)))
        self.assertFalse(is_so(("paper", SURE, FOUND, paper)))
        self.assertFalse(is_so(("paper", KILN, ((2, HALF),), paper)))
        self.assertFalse(is_so(("worlds", KILN, (), 2, best_paper(KILN, FOUND, (0,), 2))))
        self.assertFalse(is_so(("worlds", KILN, FOUND, 0, best_paper(KILN, FOUND, (0,), 2))))
        self.assertFalse(is_so(("worlds", KILN, FOUND, True, best_paper(KILN, FOUND, (0,), 1))))
        self.assertFalse(is_so(("worlds", KILN, FOUND, 3, best_paper(KILN, FOUND, (0,), 1))))
        reason = reason_paper(KILN, QUESTION, (1,))
        for question in (QUESTION[:2] + (((1, 2),),), (QUESTION[0], (3, 2), QUESTION[2]), (("is", 2, (0,)),) + QUESTION[1:],
                         QUESTION[:2], (QUESTION[0], (4, 7), QUESTION[2]), QUESTION[:2] + ((),)):
            self.assertFalse(is_so(("reason", KILN, question, reason)))
        barred = (("is", 1, (0,)), (1, 2), ((0, 1),))
        for kind in (("reason", SURE, barred, reason), ("turn", SURE, barred, (1,), turn_paper(KILN, QUESTION, (1,)))):
            self.assertFalse(is_so(kind))
        turn = turn_paper(KILN, QUESTION, (3,))
        for costs in ((2,), (3, 3), (-3,), (True,), [3], None):
            self.assertFalse(is_so(("turn", KILN, QUESTION, costs, turn)))

    def test_answers(self):
        paper = paper_of(KILN, FOUND)
        good = ("answer", KILN, FOUND, ("total",), ("total", (7, 24)), paper)
        self.assertTrue(is_so(good))
        for command in (("back",), ("take", 1), ("put", 0, HALF), ("rows", 0, (HALF,)), ("total", 1), ("best", 0), ("shares", 2), ["total"]):
            self.assertFalse(is_so(exchanged(good, 3, command)))
        self.assertFalse(is_so(("answer", KILN, FOUND, ("back",), ("refused", "first"), None)))
        self.assertFalse(is_so(("answer", KILN, (), ("take", 1), ("refused", "none"), None)))
        self.assertFalse(is_so(("run", KILN, COMMANDS + (("best", 0),), ANSWERS + (None,))))
        self.assertFalse(is_so(("run", KILN, list(COMMANDS), ANSWERS)))
        broken = Paper(paper.tree, paper.homes, paper.up, (Table((), (), ((2, 1),)),) + paper.down[1:])
        self.assertFalse(is_so(exchanged(good, 5, broken)))
        net = chain_net_of(24)
        commands = read_script(net, "put a is 0\nwhy 1/2: m is 0\nturn 1/2: m is 0\nbest 3\nshares m")
        self.assertTrue(is_so(("run", net, commands, run_with_papers(net, commands))))


if __name__ == "__main__":
    unittest.main()
