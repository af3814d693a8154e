"""Points 91 and 92: commands and scripts."""

import unittest
from fractions import Fraction

from allworlds.errors import InvalidText
from allworlds.nets import Net
from allworlds.printer import show_claim, show_fraction, show_news
from allworlds.reader import read_net
from allworlds.scripts import is_command, read_script, show_command, show_script
from tests.drawn import (
    NO_INTEGERS, NO_TUPLES, Odd, draw_claim, draw_net, draw_row, draw_weights, drawn, nest, pair_of,
)

NET = read_net("kiln 2: 1/4 3/4\nchip 3 of kiln: 2/3 1/3 0, 1/6 5/6 0\nof 2 of chip: 1 0, 0 1, 1/2 1/2")
HALF = ((1, 2), (1, 2))
CLAIM = ("or", ("is", 0, (0,)), ("not", ("is", 1, (0, 2))))
WEIGHTS, FOUND = ((1, 2), (0, 1), (3, 1)), ((0, 1), (1, 1), (0, 1))
ROWS = (HALF, ((1, 1), (0, 1)), ((0, 1), (1, 1)))
COMMANDS = (
    ("put", 1, WEIGHTS), ("put", 1, FOUND), ("take", 2), ("rows", 2, ROWS), ("back",), ("total",), ("shares", 1),
    ("share", CLAIM), ("ask", (1, 2), CLAIM), ("why", (0, 1), CLAIM), ("turn", (1, 1), CLAIM), ("best", 12),
)
LINES = (
    "put chip: 1/2 0 3", "put chip is 1", "take of", "rows of: 1/2 1/2, 1 0, 0 1", "back", "total", "shares chip",
    "share kiln is 0 | !chip is 0 2", "ask 1/2: kiln is 0 | !chip is 0 2", "why 0: kiln is 0 | !chip is 0 2",
    "turn 1: kiln is 0 | !chip is 0 2", "best 12",
)


def draw_command(rng, net):
    """A command for a net."""
    word = rng.choice([command[0] for command in COMMANDS])
    thing = rng.randrange(len(net.things))
    count, parents = net.things[thing][1:3]
    if word in ("back", "total"):
        return (word,)
    if word in ("take", "shares"):
        return word, thing
    if word == "put":
        return word, thing, draw_weights(rng, count)
    if word == "rows":
        many = 1
        for parent in parents:
            many *= net.things[parent][1]
        return word, thing, tuple(draw_row(rng, count) for _ in range(many))
    if word == "best":
        return word, rng.choice((1, 2, 10 ** 18 - 1, rng.randint(1, 99)))
    if word == "share":
        return word, draw_claim(rng, net)
    return word, pair_of(Fraction(rng.randint(0, 9), 9)), draw_claim(rng, net)


class TestCommands(unittest.TestCase):
    def test_right(self):
        for command in COMMANDS:
            self.assertIs(is_command(NET, command), True)
        self.assertIs(is_command(net=NET, value=("best", 10 ** 400)), True)
        for rng in drawn(100, 200):
            net = draw_net(rng)
            self.assertIs(is_command(net, draw_command(rng, net)), True)

    def test_any_value(self):
        wrong = NO_TUPLES + ((), nest(100000), ("",), ("put",), ("total", 0), ("back", None), ("stop",), (None,), (Odd(),), ("is", 0, ()),
                             ("best",), ("share",), ("take",), ("items", 1), (("put",), 1, WEIGHTS), ("Put", 1, WEIGHTS), ("deeds",))
        for value in wrong:
            self.assertIs(is_command(NET, value), False)
        for command in COMMANDS:
            self.assertIs(is_command(NET, list(command)), False)
            self.assertIs(is_command(NET, command + (0,)), False)
            self.assertIs(is_command(NET, command[:-1]), False)
            self.assertIs(is_command(NET, command[:1] + command), False)
            for at in range(len(command)):
                for value in NO_TUPLES + ((), nest(100000), (None,), (1, 2, 3)):
                    if command[0] in ("take", "shares", "best") and type(value) is int and value >= 0:
                        continue
                    if command[0] in ("put", "rows") and at == 1 and type(value) is int:
                        continue
                    self.assertIs(is_command(NET, command[:at] + (value,) + command[at + 1:]), False, (command, at, value))

    def test_things(self):
        for word in ("take", "shares"):
            for value in (0, 1, 2):
                self.assertIs(is_command(NET, (word, value)), True)
            for value in NO_INTEGERS + (-1, 3, 10 ** 400, "kiln"):
                self.assertIs(is_command(NET, (word, value)), False)
        for value in NO_INTEGERS + (-1, 3):
            self.assertIs(is_command(NET, ("put", value, HALF)), False)
            self.assertIs(is_command(NET, ("rows", value, (HALF,))), False)
        self.assertIs(is_command(NET, ("put", True, WEIGHTS)), False)

    def test_weights_and_rows(self):
        for weights in (HALF, ((0, 1),) * 3, ((1, 1), (1, 1), (-1, 1)), ((1, 2), (0, 1), (2, 4)), list(WEIGHTS), WEIGHTS + ((1, 1),)):
            self.assertIs(is_command(NET, ("put", 1, weights)), False)
        self.assertIs(is_command(NET, ("put", 0, HALF)), True)
        for rows in (ROWS[:2], ROWS + ROWS[:1], list(ROWS), (HALF, HALF, ((1, 2), (1, 3))), (HALF, HALF, (HALF,)), (HALF,), ()):
            self.assertIs(is_command(NET, ("rows", 2, rows)), False)
        self.assertIs(is_command(NET, ("rows", 0, (HALF,))), True)

    def test_claims_and_bars(self):
        for claim in (("is", 3, ()), ("is", 0, (2,)), ("not", CLAIM, CLAIM), ("and", CLAIM), None, nest(50000)):
            self.assertIs(is_command(NET, ("share", claim)), False)
            for word in ("ask", "why", "turn"):
                self.assertIs(is_command(NET, (word, (1, 2), claim)), False)
        for bar in ((-1, 2), (2, 1), (3, 2), (2, 2), (0, 2), (True, 1), 1, 0, None, (1, 2, 3)):
            for word in ("ask", "why", "turn"):
                self.assertIs(is_command(NET, (word, bar, CLAIM)), False)

    def test_many(self):
        for value in NO_INTEGERS + (0, -1):
            self.assertIs(is_command(NET, ("best", value)), False)
        self.assertIs(is_command(NET, ("best", 1)), True)


class TestScripts(unittest.TestCase):
    def refused(self, line, text, net=NET):
        with self.assertRaises(InvalidText) as caught:
            read_script(net, text)
        self.assertEqual((caught.exception.line, caught.exception.at), (line, 0), text)

    def test_shown(self):
        for command, line in zip(COMMANDS, LINES, strict=True):
            self.assertEqual(show_command(NET, command), line)
            self.assertEqual(read_script(NET, line), (command,))
        self.assertEqual(show_script(NET, COMMANDS), "\n".join(LINES))
        self.assertEqual(read_script(NET, "\n".join(LINES)), COMMANDS)
        self.assertEqual(show_script(net=NET, commands=()), "")
        self.assertEqual(show_command(net=NET, command=("best", 10 ** 4000 + 1)), "best 1" + "0" * 3999 + "1")
        self.assertEqual(read_script(net=NET, text=""), ())

    def test_example(self):
        net = read_net("kiln 2: 1/4 3/4\nchip 2 of kiln: 2/3 1/3, 1/6 5/6")
        text = "shares kiln\nput chip is 0\nask 1/2: kiln is 0\nwhy 1/2: kiln is 0\nturn 1/2: kiln is 0\nback\nbest 2"
        claim, bar = ("is", 0, (0,)), (1, 2)
        commands = (("shares", 0), ("put", 1, ((1, 1), (0, 1))), ("ask", bar, claim), ("why", bar, claim), ("turn", bar, claim),
                    ("back",), ("best", 2))
        self.assertEqual(read_script(net, text), commands)
        self.assertEqual(show_script(net, commands), text)

    def test_no_string(self):
        for value in NO_TUPLES + ((), ("total",), nest(100000), b"total", ["total"]):
            if not isinstance(value, str):
                with self.assertRaises(InvalidText) as caught:
                    read_script(NET, value)
                self.assertEqual((caught.exception.line, caught.exception.at), (-1, -1))

    def test_empty_lines(self):
        for text in ("", "\n", "   ", " \n\n  \n"):
            self.assertEqual(read_script(NET, text), ())
        self.assertEqual(read_script(NET, "\n\n  total\n \n back  \n"), (("total",), ("back",)))
        self.refused(3, "\n  \ntotal\nstop\nalso")

    def test_blanks(self):
        told = {
            "  put   chip  :  1 / 2   0 3 ": COMMANDS[0], "put chip:1/2 0 3": COMMANDS[0], " put chip   is 1": COMMANDS[1],
            "put chip:0 1 0": COMMANDS[1], "put chip: 0 7/7 0/5": COMMANDS[1], "take    of  ": COMMANDS[2],
            "rows of:2/4 1/ 2,1 0 ,0 1": COMMANDS[3], "rows   of  :  1/2 1/2,1 0,0 1": COMMANDS[3], " back ": ("back",),
            "shares   chip": ("shares", 1), "share kiln is 0|!chip is 2 0": COMMANDS[7], "share ( kiln is 0 ) | ! ( chip is 0 2 )": COMMANDS[7],
            "ask 1 / 2 :kiln is 0|!chip is 0 2": COMMANDS[8], "ask   3/6:kiln is 0|!chip is 0 2": COMMANDS[8],
            "why 0/7 : kiln is 0 | !chip is 0 2": COMMANDS[9], "turn 5/5: kiln is 0 | !chip is 0 2": COMMANDS[10],
            "best    12": COMMANDS[11], "  best 12   ": COMMANDS[11],
        }
        for text, command in told.items():
            self.assertEqual(read_script(NET, text), (command,), text)

    def test_no_command(self):
        wrong = (
            "stop", "Total", "total 1", "total total", "back back", "back 1", "totals", "tot al", "put", "take", "rows", "shares", "share",
            "ask", "why", "turn", "best", "put kiln", "put kiln is", "put kiln is 2", "put kiln is 0; chip is 1", "put kiln is 0;",
            "put kiln: 0 0", "put kiln: 1", "put kiln: 1 1 1", "put kiln: 1 1, 1 1", "put lamp is 0", "putkiln is 0", "put ; kiln is 0",
            "take kiln chip", "take lamp", "take 0", "take kiln;", "take is", "takekiln", "shares kiln is 0", "shares 1", "shares",
            "rows kiln", "rows kiln:", "rows kiln: 1", "rows kiln: 1/2 1/3", "rows kiln: 1/2 1/2,", "rows kiln: 1/2 1/2, 1 0", "rows lamp: 1 0",
            "rows of: 1 0, 1 0", "rows of: 1 0, 1 0, 1 0, 1 0", "rows : 1 0", "rows kiln 1 0", "rows kiln: 1 0: 1 0", "rows kiln of: 1 0",
            "share kiln", "share kiln is 0 &", "share kiln is 2", "share (kiln is 0", "share kiln is 0 chip is 0", "share: kiln is 0",
            "share!kiln is 0", "share(kiln is 0)", "ask 1/2", "ask 1/2:", "ask kiln is 0", "ask : kiln is 0", "ask 3/2: kiln is 0",
            "ask 2: kiln is 0", "ask 1/0: kiln is 0", "ask 0/0: kiln is 0", "ask 1/02: kiln is 0", "ask 01: kiln is 0", "ask -1: kiln is 0",
            "ask 1/2/3: kiln is 0", "ask 1 2: kiln is 0", "ask 1/: kiln is 0", "ask /2: kiln is 0", "ask 1/2 kiln is 0",
            "ask 1;2: kiln is 0", "ask 1 x 2: kiln is 0", "ask 1 & 2: kiln is 0", "ask 1/2: kiln is 0: kiln is 0", "ask 1/2:: kiln is 0", "ask1/2: kiln is 0", "ask 1/2: kiln", "ask half: kiln is 0",
            "why 1/2; kiln is 0", "turn 11/10: kiln is 0", "best 0", "best 01", "best 1 2", "best -1", "best 1/2", "best two", "best2",
            "best 1;", "total;", "; total", "total, back", "yield 1", "sh are kiln is 0", "put kiln is 0 1", "put kiln is never",
        )
        for line in wrong:
            self.refused(0, line)
            self.refused(2, "total\n\n" + line + "\nstop")
            self.refused(1, "back\n   " + line + "   \nback")

    def test_digits(self):
        nines, more = "9" * 18, "1" + "0" * 18
        self.assertEqual(read_script(NET, f"best {nines}"), (("best", 10 ** 18 - 1),))
        self.refused(0, f"best {more}")
        self.assertEqual(read_script(NET, f"ask {nines}/{nines}: of is 0"), (("ask", (1, 1), ("is", 2, (0,))),))
        self.assertEqual(read_script(NET, f"ask 1/{nines}: of is 0"), (("ask", (1, 10 ** 18 - 1), ("is", 2, (0,))),))
        self.refused(0, f"ask 1/{more}: of is 0")
        self.refused(0, f"ask {more}/{more}: of is 0")
        self.refused(0, f"ask {more}/{nines}: of is 0")
        # Those of weights and rows may have more.
        long = "1" + "0" * 300
        self.assertEqual(read_script(NET, f"put kiln: {long} 1/{long}"), (("put", 0, ((10 ** 300, 1), (1, 10 ** 300))),))
        rows = f"rows kiln: 1/{long} {'9' * 300}/{long}"
        self.assertEqual(read_script(NET, rows), (("rows", 0, (((1, 10 ** 300), (10 ** 300 - 1, 10 ** 300)),)),))
        self.assertEqual(show_script(NET, read_script(NET, rows)), rows)

    def test_names(self):
        names = ("put", "take", "is", "never", "best", "of", "total")
        net = Net(tuple((name, 2, (), (HALF,)) for name in names))
        for at, name in enumerate(names):
            self.assertEqual(read_script(net, f"take {name}\nshares {name}\nput {name} is 1\nrows {name}: 1 0\nshare {name} is never"),
                             (("take", at), ("shares", at), ("put", at, ((0, 1), (1, 1))), ("rows", at, (((1, 1), (0, 1)),)),
                              ("share", ("is", at, ()))))
        self.refused(0, "total total", net)

    def test_parents(self):
        net = read_net("a 2: 1 0\nb 3: 1 0 0\nc 2 of b a: 1 0, 0 1, 1 0, 0 1, 1 0, 0 1")
        up, down = ((1, 1), (0, 1)), ((0, 1), (1, 1))
        self.assertEqual(net.things[2][2:], ((0, 1), (up, up, up, down, down, down)))
        # Rows of a command stand for the fillings of the parents, ascending.
        self.assertEqual(read_script(net, "rows c: 1 0, 0 1, 1 0, 0 1, 0 1, 1 0"), (("rows", 2, (up, down, up, down, down, up)),))

    def test_drawn(self):
        for rng in drawn(150, 201):
            net = draw_net(rng)
            commands = tuple(draw_command(rng, net) for _ in range(rng.randint(0, 6)))
            text = show_script(net, commands)
            self.assertEqual(read_script(net, text), commands)
            self.assertEqual(text.split("\n"), [show_command(net, command) for command in commands] or [""])
            for command, line in zip(commands, text.split("\n")):
                self.assertNotIn("  ", line)
                if command[0] in ("ask", "why", "turn"):
                    self.assertEqual(line, f"{command[0]} {show_fraction(command[1])}: {show_claim(net, command[2])}")
                if command[0] == "put":
                    self.assertEqual(line, "put " + show_news(net, (command[1:],)))
            loose = "\n".join("  " + line.replace(" ", "   ") + " \n" for line in text.split("\n"))
            self.assertEqual(read_script(net, loose), commands)

    def test_a_word_too_much(self):
        for line in LINES:
            for more in (" x", " of", " 1 1", " ,", " ;", " :"):
                self.refused(0, line + more)
            for less in ("x ", "of ", "1 ", ": "):
                self.refused(0, less + line)


if __name__ == "__main__":
    unittest.main()
