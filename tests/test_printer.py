"""Point 16: what is shown."""

import unittest

from allworlds.nets import Net, finding
from allworlds.printer import show_claim, show_fraction, show_net, show_news
from tests.drawn import draw_claim, draw_net, draw_news, drawn
from tests.reading import read_claim_again, read_net_again, read_news_again

HALF, NONE, ALL = ((1, 2), (1, 2)), ((1, 1), (0, 1)), ((0, 1), (1, 1))
NET = Net((("flour", 2, (), (((1, 3), (2, 3)),)), ("salt", 2, (), (NONE,)),
           ("crust", 2, (0, 1), (HALF, ALL, NONE, NONE))))
A, B, C = ("is", 0, (0,)), ("is", 1, (0, 1)), ("is", 2, ())


class TestFractions(unittest.TestCase):
    def test_fractions(self):
        told = {(0, 1): "0", (1, 1): "1", (7, 1): "7", (1, 2): "1/2", (-1, 2): "-1/2", (-3, 1): "-3", (10, 21): "10/21"}
        for fraction, text in told.items():
            self.assertEqual(show_fraction(fraction), text)

    def test_many_digits(self):
        for digits in (63, 64, 65, 128, 129, 4000, 6000):
            top = "1" + "0" * (digits - 2) + "3"
            number = 10 ** (digits - 1) + 3
            self.assertEqual(show_fraction((number, 1)), top)
            self.assertEqual(show_fraction((-number, 7)), "-" + top + "/7")
            self.assertEqual(show_fraction((1, number)), "1/" + top)
            self.assertEqual(show_fraction((10 ** digits, 1)), "1" + "0" * digits)


class TestNets(unittest.TestCase):
    def test_example(self):
        self.assertEqual(show_net(NET), "flour 2: 1/3 2/3\nsalt 2: 1 0\ncrust 2 of flour salt: 1/2 1/2, 0 1, 1 0, 1 0")

    def test_one(self):
        row = tuple((1, 7) for _ in range(7))
        self.assertEqual(show_net(Net((("of", 7, (), (row,)),))), "of 7: 1/7 1/7 1/7 1/7 1/7 1/7 1/7")

    def test_many_parents(self):
        things = tuple((name, 2, (), (HALF,)) for name in "abcde") + (("f", 2, (0, 1, 2, 3, 4), (HALF,) * 32),)
        self.assertTrue(show_net(Net(things)).endswith("\nf 2 of a b c d e: " + ", ".join(["1/2 1/2"] * 32)))

    def test_again(self):
        for rng in drawn(60, 15):
            net = draw_net(rng)
            self.assertEqual(read_net_again(show_net(net)), net.things)


class TestNews(unittest.TestCase):
    def test_example(self):
        news = ((0, ((1, 2), (3, 1))), (2, ((0, 1), (1, 1))))
        self.assertEqual(show_news(NET, news), "flour: 1/2 3; crust is 1")

    def test_none(self):
        self.assertEqual(show_news(NET, ()), "")

    def test_findings(self):
        self.assertEqual(show_news(NET, (finding(NET, 0, 0), finding(NET, 1, 1))), "flour is 0; salt is 1")
        self.assertEqual(show_news(NET, ((0, ((2, 1), (0, 1))),)), "flour: 2 0")
        self.assertEqual(show_news(NET, ((0, ((1, 1), (1, 1))),)), "flour: 1 1")
        self.assertEqual(show_news(NET, ((0, ((1, 1), (1, 2))),)), "flour: 1 1/2")
        net = Net((("is", 3, (), (((1, 1), (0, 1), (0, 1)),)),))
        self.assertEqual(show_news(net, (finding(net, 0, 2),)), "is is 2")
        self.assertEqual(show_news(net, ((0, ((0, 1), (1, 1), (1, 1))),)), "is: 0 1 1")

    def test_again(self):
        for rng in drawn(80, 16):
            net = draw_net(rng)
            news = draw_news(rng, net)
            self.assertEqual(read_news_again(net, show_news(net, news)), news)


class TestClaims(unittest.TestCase):
    def shown(self, claim, text):
        self.assertEqual(show_claim(NET, claim), text)

    def test_example(self):
        self.shown(("or", ("and", ("is", 0, (1,)), ("or", ("is", 1, ()), ("is", 2, (0, 1)))), ("not", ("is", 1, (0,)))),
                   "flour is 1 & (salt is never | crust is 0 1) | !salt is 0")

    def test_is(self):
        self.shown(A, "flour is 0")
        self.shown(B, "salt is 0 1")
        self.shown(C, "crust is never")

    def test_not(self):
        self.shown(("not", A), "!flour is 0")
        self.shown(("not", ("not", A)), "!!flour is 0")
        self.shown(("not", ("and", A, B)), "!(flour is 0 & salt is 0 1)")
        self.shown(("not", ("or", A, ("not", ("not", C)))), "!(flour is 0 | !!crust is never)")
        self.shown(("not", ("not", ("or", A, C))), "!!(flour is 0 | crust is never)")

    def test_and_or(self):
        self.shown(("and", A, B, C), "flour is 0 & salt is 0 1 & crust is never")
        self.shown(("or", A, B, C), "flour is 0 | salt is 0 1 | crust is never")
        self.shown(("and", A, ("and", A, A)), "flour is 0 & (flour is 0 & flour is 0)")
        self.shown(("and", ("and", A, A), A), "(flour is 0 & flour is 0) & flour is 0")
        self.shown(("or", ("or", A, A), A), "(flour is 0 | flour is 0) | flour is 0")
        self.shown(("or", ("and", A, A), A), "flour is 0 & flour is 0 | flour is 0")
        self.shown(("and", ("or", A, A), ("not", A)), "(flour is 0 | flour is 0) & !flour is 0")
        self.shown(("and", ("or", ("and", A, ("or", A, A)), A), A),
                   "(flour is 0 & (flour is 0 | flour is 0) | flour is 0) & flour is 0")

    def test_odd_names(self):
        net = Net((("is", 2, (), (HALF,)), ("never", 2, (), (HALF,)), ("of", 2, (), (HALF,))))
        claim = ("and", ("is", 0, ()), ("is", 1, (1,)), ("not", ("is", 2, (0, 1))))
        self.assertEqual(show_claim(net, claim), "is is never & never is 1 & !of is 0 1")

    def test_again(self):
        for rng in drawn(200, 17):
            net = draw_net(rng)
            claim = draw_claim(rng, net)
            self.assertEqual(read_claim_again(net, show_claim(net, claim)), claim)

    def test_parentheses_are_needed(self):
        pairs = 0
        for rng in drawn(150, 18):
            net = draw_net(rng)
            claim = draw_claim(rng, net)
            text = show_claim(net, claim)
            for start in [at for at, sign in enumerate(text) if sign == "("]:
                depth = 0
                for end in range(start, len(text)):
                    depth += {"(": 1, ")": -1}.get(text[end], 0)
                    if depth == 0:
                        break
                bare = text[:start] + text[start + 1:end] + text[end + 1:]
                self.assertNotEqual(read_claim_again(net, bare), claim)
                pairs += 1
        self.assertGreater(pairs, 100)

    def test_blanks(self):
        for rng in drawn(100, 19):
            net = draw_net(rng)
            texts = (show_net(net), show_news(net, draw_news(rng, net)), show_claim(net, draw_claim(rng, net)))
            for text in texts:
                for wrong in ("  ", " \n", "\n\n", " :", " ,", " ;", " )", "( ", "! ", " /", "/ "):
                    self.assertNotIn(wrong, text)
                self.assertEqual(text, text.strip())
                for sign in ":,;&|":
                    self.assertNotRegex(text, f"[{sign}][^ ]")
                self.assertNotRegex(text, "[^ ][&|]")

    def test_deep(self):
        claim = A
        for _ in range(3000):
            claim = ("not", claim)
        self.shown(claim, "!" * 3000 + "flour is 0")


if __name__ == "__main__":
    unittest.main()
