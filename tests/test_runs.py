"""Points 93 and 94, and of point 95 the papers of runs."""

import unittest
from fractions import Fraction

from allworlds.bestpapers import is_best_paper
from allworlds.errors import InvalidText
from allworlds.judge import is_paper
from allworlds.nets import Net, with_rows
from allworlds.plain import plain_best, plain_share, plain_shares, plain_total
from allworlds.reader import read_net
from allworlds.reasons import is_reason_paper
from allworlds.runs import run_commands, run_script, run_with_papers, show_result
from allworlds.scripts import is_command, read_script
from allworlds.turns import is_turn_paper
from tests.cases import FULL, HALF, SURE, ErrorCase, chain_net_of, free_net, wide_net
from tests.drawn import NO_TUPLES, draw_claim, draw_net, draw_row, draw_weights, drawn, pair_of, plain
from tests.questions import changes, plain_reasons, turning_fillings

KILN = read_net("kiln 2: 1/4 3/4\nchip 2 of kiln: 2/3 1/3, 1/6 5/6")
SCRIPT = "shares kiln\nput chip is 0\nask 1/2: kiln is 0\nwhy 1/2: kiln is 0\nturn 1/2: kiln is 0\nback\nbest 2"


def draw_command(rng, net, found=0.7):
    """Any command for a net, often a finding."""
    thing = rng.randrange(len(net.things))
    count, rows = net.things[thing][1], net.things[thing][3]
    word = rng.choice(("put", "put", "put", "take", "rows", "back", "total", "shares", "share", "ask", "why", "turn", "best"))
    if word == "put":
        case = rng.randrange(count)
        known = tuple((int(at == case), 1) for at in range(count))
        return word, thing, known if rng.random() < found else draw_weights(rng, count)
    if word == "rows":
        return word, thing, tuple(draw_row(rng, count) for _ in rows)
    if word in ("back", "total"):
        return (word,)
    if word in ("take", "shares"):
        return word, thing
    if word == "best":
        return word, rng.randint(1, 4)
    claim = draw_claim(rng, net, 2)
    return (word, claim) if word == "share" else (word, pair_of(Fraction(rng.randint(0, 4), 4)), claim)


class PlainRun:
    """The results of commands by looking at all worlds, by the words of the document."""

    def __init__(self, net):
        self.states = [(net, {})]

    def now(self):
        """The present net and news."""
        net, news = self.states[-1]
        return net, tuple(sorted(news.items()))

    def deed(self, command):
        """Do a deed and tell its result."""
        net, news = self.states[-1]
        word = command[0]
        if word == "back":
            if len(self.states) == 1:
                return "refused", "first"
            self.states.pop()
            return ("ok",)
        if word == "take" and command[1] not in news:
            return "refused", "none"
        news = dict(news)
        if word == "put":
            news[command[1]] = command[2]
        elif word == "take":
            del news[command[1]]
        else:
            net = with_rows(net, command[1], command[2])
        self.states.append((net, news))
        return ("ok",)

    def found(self):
        """The findings that the news are, or None."""
        news = self.now()[1]
        pairs = []
        for thing, weights in news:
            if sorted(weights) != [(0, 1)] * (len(weights) - 1) + [(1, 1)]:
                return None
            pairs.append((thing, weights.index((1, 1))))
        return tuple(pairs)

    def asked(self, command):
        """The result of a command that asks; of a reason, and of what turns, what is allowed."""
        net, news = self.now()
        word = command[0]
        if word == "total":
            return "total", plain_total(net, news)
        findings = self.found()
        if word in ("why", "turn") and findings is None:
            return "refused", "weights"
        if plain_total(net, news)[0] == 0:
            return "refused", "barred"
        if word == "shares":
            return "shares", plain_shares(net, news, (command[1],))
        if word == "share":
            return "share", plain_share(net, news, command[1])
        if word == "ask":
            return "answer", plain(plain_share(net, news, command[2])) >= plain(command[1])
        if word == "best":
            return "worlds", plain_best(net, news, command[1])
        question = (command[2], command[1], findings)
        if word == "why":
            left = [thing for thing, _ in findings]
            reasons = plain_reasons(net, question)
            for thing in list(left):
                less = tuple(one for one in left if one != thing)
                if less in reasons:
                    left = list(less)
            return "reason", tuple(left)
        turning = turning_fillings(net, question)
        fewest = min([len(changes(question, filling)) for filling in turning], default=None)
        if fewest is None:
            return ("none",)
        return "turn", [tuple((thing, other) for (thing, case), other in zip(findings, filling) if case != other)
                        for filling in turning if len(changes(question, filling)) == fewest]


def right(due, result):
    """Whether a result is the one that is due, or one of those."""
    if due[0] == "turn":
        return result[0] == "turn" and result[1] in due[1]
    return result == due


class TestRuns(ErrorCase):
    def test_example(self):
        lines = ("shares 1/4 3/4", "ok", "answer yes", "reason chip", "turn chip is 1", "ok", "worlds 5/8 1 1; 1/6 0 0")
        self.assertEqual(run_script(KILN, SCRIPT), lines)
        self.assertEqual(run_script(net=KILN, text=SCRIPT), lines)
        commands = read_script(KILN, SCRIPT)
        results = run_commands(net=KILN, commands=commands)
        self.assertEqual(results, (
            ("shares", ((1, 4), (3, 4))), ("ok",), ("answer", True), ("reason", (1,)), ("turn", ((1, 1),)), ("ok",),
            ("worlds", (((5, 8), (1, 1)), ((1, 6), (0, 0))))))
        self.assertIs(results[2][1], True)
        self.assertEqual(run_commands(KILN, ()), ())
        self.assertEqual(run_with_papers(KILN, ()), ())
        self.assertEqual(run_script(KILN, "\n \n"), ())

    def test_drawn(self):
        words = {}
        for rng in drawn(80, 440):
            net = draw_net(rng, rng.randint(1, 4))
            commands = tuple(draw_command(rng, net) for _ in range(10))
            self.assertTrue(all(is_command(net, command) for command in commands))
            results = run_commands(net, commands)
            self.assertEqual(len(results), 10)
            beside = PlainRun(net)
            for command, result in zip(commands, results):
                is_deed = command[0] in ("put", "take", "rows", "back")
                due = beside.deed(command) if is_deed else beside.asked(command)
                self.assertTrue(right(due, result), (command, due, result))
                words[result[0] if result[0] != "refused" else result] = True
            self.assertEqual(tuple(result for result, _ in run_with_papers(net, commands)), results)
        self.assertEqual(len(words), 9 + 4)

    def test_refused(self):
        finding = ("put", 0, ((1, 1), (0, 1)))
        net = Net((("a", 2, (), (((0, 1), (1, 1)),)),) + wide_net(15).things[1:])
        many = ("or",) + tuple(("is", thing, (1,)) for thing in range(15))
        small = ("is", 3, (0,))
        asked = (("share", many), ("ask", (1, 2), many), ("why", (1, 2), many), ("turn", (1, 2), many))
        barred = (("shares", 1), ("share", small), ("ask", (1, 2), small), ("why", (1, 2), small), ("turn", (1, 2), small),
                  ("best", 2))
        # The size is refused first, then weights, then a total of 0.
        told = ("put", 1, HALF)
        results = run_commands(net, (finding, told) + asked + barred + (("total",), ("take", 5), ("back",), ("back",), ("back",)))
        self.assertEqual(results[2:6], (("refused", "size"),) * 4)
        self.assertEqual(results[6:12], (("refused", "barred"),) * 3 + (("refused", "weights"),) * 2 + (("refused", "barred"),))
        self.assertEqual(results[12:], (("total", (0, 1)), ("refused", "none"), ("ok",), ("ok",), ("refused", "first")))
        results = run_commands(net, (finding,) + barred)
        self.assertEqual(results[1:], (("refused", "barred"),) * 6)
        # Weights of 2 and 0 are not those of a finding, though they tell as much.
        news = (("put", 1, ((2, 1), (0, 1))), ("why", (1, 2), small), ("take", 1), ("why", (1, 2), small))
        self.assertEqual(run_commands(net, news), (("ok",), ("refused", "weights"), ("ok",), ("reason", ())))

    def test_just_so_many(self):
        claim = ("and",) + tuple(("is", thing, (0,)) for thing in range(9))
        self.assertEqual(run_commands(free_net(FULL), (("share", claim),)), (("share", (1, 20000)),))
        self.assertEqual(run_commands(free_net(FULL[:-1] + (3,)), (("share", claim),)), (("refused", "size"),))

    def test_back(self):
        rows = (((1, 1), (0, 1)),)
        commands = (("rows", 0, rows), ("shares", 0), ("put", 1, ((0, 1), (2, 1))), ("total",), ("back",), ("back",), ("total",),
                    ("shares", 0), ("back",), ("take", 1))
        self.assertEqual(run_commands(KILN, commands), (
            ("ok",), ("shares", ((1, 1), (0, 1))), ("ok",), ("total", (2, 3)), ("ok",), ("ok",), ("total", (1, 1)),
            ("shares", ((1, 4), (3, 4))), ("refused", "first"), ("refused", "none")))

    def test_long(self):
        net = chain_net_of(24)
        text = "put a is 0\nput x is 1\nask 1/2: m is 0\nwhy 1/2: m is 0\nturn 1/2: m is 0\nbest 3\nshares m\nshare a is 1 & x is 1"
        lines = run_script(net, text)
        self.assertEqual(lines[:3], ("ok", "ok", "answer yes"))
        self.assertEqual(lines[7], "share 0")


class TestLines(ErrorCase):
    def test_each(self):
        for result, line in (
                (("ok",), "ok"), (("none",), "none"), (("refused", "size"), "refused size"), (("total", (7, 24)), "total 7/24"),
                (("total", (0, 1)), "total 0"), (("shares", ((1, 4), (3, 4))), "shares 1/4 3/4"), (("share", (1, 1)), "share 1"),
                (("answer", True), "answer yes"), (("answer", False), "answer no"), (("reason", ()), "reason"),
                (("reason", (0, 1)), "reason kiln chip"), (("turn", ((0, 1), (1, 0))), "turn kiln is 1; chip is 0"),
                (("worlds", (((5, 8), (1, 1)),)), "worlds 5/8 1 1"),
                (("worlds", (((1, 2), (0, 1)), ((1, 4), (1, 0)))), "worlds 1/2 0 1; 1/4 1 0"),
                (("total", (10 ** 3999 + 1, 10 ** 3999)), "total 1" + "0" * 3998 + "1/1" + "0" * 3999)):
            self.assertEqual(show_result(net=KILN, result=result), line)

    def test_scripts(self):
        for value in NO_TUPLES + ((),):
            if not isinstance(value, str):
                with self.assertRaises(InvalidText) as caught:
                    run_script(KILN, value)
                self.assertEqual((caught.exception.line, caught.exception.at), (-1, -1))
        with self.assertRaises(InvalidText) as caught:
            run_script(KILN, "total\n\nback\nput kiln is 2\ntotal of")
        self.assertEqual((caught.exception.line, caught.exception.at), (3, 0))
        self.assertEqual(run_script(KILN, " total \n\nback"), ("total 1", "refused first"))


class TestPapers(ErrorCase):
    def test_drawn(self):
        for rng in drawn(60, 441):
            net = draw_net(rng, rng.randint(1, 4))
            commands = tuple(draw_command(rng, net) for _ in range(8))
            beside = PlainRun(net)
            for command, pair in zip(commands, run_with_papers(net=net, commands=commands), strict=True):
                self.assertEqual((type(pair), len(pair)), (tuple, 2))
                if command[0] in ("put", "take", "rows", "back"):
                    self.assertEqual(pair, (beside.deed(command), None))
                else:
                    self.paper(*beside.now(), command, beside.found(), *pair)

    def paper(self, net, news, command, findings, result, paper):
        """Ask for the right paper of a result."""
        word = result[0]
        if result in (("refused", "size"), ("refused", "weights")):
            self.assertIsNone(paper)
        elif word == "worlds":
            self.assertTrue(is_paper(net, news, paper[0]))
            self.assertTrue(is_best_paper(net, news, command[1], paper[1]))
            self.assertEqual(paper[1].lot, tuple(range(len(net.things))))
        elif word == "reason":
            question = (command[2], command[1], findings)
            reason, turns = paper
            self.assertTrue(is_reason_paper(net, question, reason))
            self.assertEqual((reason.lot, len(turns)), (result[1], len(result[1])))
            turning = turning_fillings(net, question)
            for thing, filling in zip(reason.lot, turns):
                self.assertIn(filling, turning)
                self.assertEqual(set(changes(question, filling)) & set(reason.lot), {thing})
        elif word in ("turn", "none"):
            question = (command[2], command[1], findings)
            self.assertTrue(is_turn_paper(net, question, (1,) * len(findings), paper))
            self.assertIs(paper.cost is None, word == "none")
        else:
            self.assertTrue(is_paper(net, news, paper))

    def test_barred(self):
        commands = (("put", 0, ((0, 1), (1, 1))), ("shares", 1), ("best", 1), ("total",))
        pairs = run_with_papers(SURE, commands)
        for result, paper in pairs[1:]:
            self.assertEqual(result, ("total", (0, 1)) if result[0] == "total" else ("refused", "barred"))
            self.assertTrue(is_paper(SURE, ((0, ((0, 1), (1, 1))),), paper))


if __name__ == "__main__":
    unittest.main()
