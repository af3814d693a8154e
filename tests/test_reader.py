"""Points 12 to 16: texts read, refused at their first wrong mark, completed, and shown."""

import unittest
from fractions import Fraction
from itertools import permutations, product

from allworlds.errors import InvalidText, NetError
from allworlds.lexer import marks_of
from allworlds.nets import Net, check_news, finding
from allworlds.printer import show_claim, show_net, show_news
from allworlds.claims import check_claim
from allworlds.reader import completed_claim, completed_net, completed_news, read_claim, read_net, read_news
from tests.drawn import NO_TUPLES, Odd, draw_claim, draw_net, draw_news, drawn, nest, pair_of
from tests.reading import read_claim_again, read_net_again, read_news_again

HALF, NONE, ALL = ((1, 2), (1, 2)), ((1, 1), (0, 1)), ((0, 1), (1, 1))
EXAMPLE = "flour 2: 1/3 2/3\nsalt 2: 1 0\n\ncrust 2 of salt flour: 2/4 1/2, 1 0, 0 1, 1 0"
NET = Net((("flour", 2, (), (((1, 3), (2, 3)),)), ("salt", 2, (), (NONE,)),
           ("crust", 2, (0, 1), (HALF, ALL, NONE, NONE))))
ONE = Net((("a", 2, (), (HALF,)),))
WORDS = Net((("is", 3, (), (((1, 1), (0, 1), (0, 1)),)), ("of", 2, (0,), (HALF,) * 3), ("never", 2, (), (HALF,))))


def words_of(text):
    """The marks without their places."""
    return [mark for _, _, mark in marks_of(text)]


class TestTexts(unittest.TestCase):
    """What all tests of texts need."""

    def refuses(self, read, completed, text, line, at):
        for told in (read, completed):
            with self.assertRaises(InvalidText) as caught:
                told(text)
            self.assertEqual((caught.exception.line, caught.exception.at), (line, at), text)

    def is_begun(self, read, completed, text):
        """A text that ends too soon, and can be completed."""
        lines = text.split("\n")
        with self.assertRaises(InvalidText) as caught:
            read(text)
        self.assertEqual((caught.exception.line, caught.exception.at), (len(lines) - 1, len(lines[-1])), text)
        self.completes(read, completed, text)

    def completes(self, read, completed, text):
        whole = completed(text)
        self.assertIs(type(whole), str)
        self.assertTrue(whole.startswith(text))
        marks = marks_of(text)
        self.assertEqual(marks_of(whole)[:len(marks)], marks)
        read(whole)
        return whole

    def judges(self, read, completed, text):
        """Whether a text is taken; where it is refused, what comes before the mark can be completed."""
        try:
            read(text)
        except InvalidText as error:
            place = (error.line, error.at)
        else:
            self.completes(read, completed, text)
            return True
        lines = text.split("\n")
        if place == (len(lines) - 1, len(lines[-1])):
            self.is_begun(read, completed, text)
            return False
        self.refuses(read, completed, text, *place)
        marks = [mark for mark in marks_of(text) if mark[:2] == place]
        self.assertEqual(len(marks), 1, text)
        before = "\n".join(lines[:place[0]] + [lines[place[0]][:place[1]]])
        self.completes(read, completed, before)
        self.refuses(read, completed, before + marks[0][2], *place)
        self.refuses(read, completed, before + marks[0][2] + " and", *place)
        return False

    def no_strings(self, read, completed):
        for value in NO_TUPLES + ((), ("a",), nest(100000), Odd(), b"a 2: 1 0", ["a 2: 1 0"]):
            if not isinstance(value, str):
                self.refuses(read, completed, value, -1, -1)


    def each_mark(self, read, completed, table):
        """What can follow some marks, by a table of it; the text is whole where an empty mark may follow."""
        marks = ["a", "b", "is", "of", "never", "abcdefg", "0", "1", "2", "3", "6", "7", "12", "00", "02"]
        marks += list(":,/;\n!()&|-A._")
        for begun, told in table.items():
            allowed = told.replace("NUMBERS", "1 2 3 6 7 12").replace("NEWLINE", "\n").split(" ")
            if "" in allowed:
                read(begun)
            else:
                self.is_begun(read, completed, begun)
            for mark in marks:
                text = begun + " " + mark
                if mark in allowed:
                    self.completes(read, completed, text)
                else:
                    lines = begun.split("\n")
                    self.refuses(read, completed, text, len(lines) - 1, len(lines[-1]) + 1)


class TestNets(TestTexts):
    def test_each_mark(self):
        two = "a 2 : 1 0 \n of 2 : 0 1 \n b 2"
        many = "".join(f"{name} 2: 1 0\n" for name in "cdefgh")
        self.each_mark(read_net, completed_net, {
            "": "a b is of never NEWLINE", "\n": "a b is of never NEWLINE", "a": "2 3 6", "a 2": ":", "a 6": ":",
            "a 2 :": "0 NUMBERS", "a 2 : 1": "0 /", "a 2 : 0": "NUMBERS /", "a 2 : 2": "/", "a 2 : 1 /": "NUMBERS", "a 2 : 0 /": "NUMBERS",
            "a 2 : 3 /": "3 6 7 12", "a 2 : 1 / 2": "NUMBERS", "a 2 : 1 / 3": "2 6 12", "a 2 : 1 / 3 2": "/", "a 2 : 1 / 3 2 /": "3",
            "a 2 : 3 / 3": "0", "a 2 : 0 / 3": "NUMBERS", "a 2 : 1 0": "/ NEWLINE ", "a 2 : 1 0 /": "NUMBERS", "a 2 : 0 1": "/ NEWLINE ",
            "a 2 : 0 2": "/", "a 2 : 0 2 /": "2", "a 2 : 1 / 2 1 / 2": "NEWLINE ", "a 3 : 1 / 2": "0 NUMBERS",
            "a 3 : 1 / 2 1": "/", "a 3 : 1 / 2 0": "NUMBERS /", "a 3 : 1 / 2 1 /": "2 3 6 7 12", "a 3 : 1 / 2 3 /": "6 7 12",
            "a 3 : 1": "0 /", "a 3 : 1 0": "0 /", "a 3 : 2": "/", "a 3 : 1 0 0": "/ NEWLINE ", "a 3 : 0": "0 NUMBERS /",
            "a 2 : 1 0 \n": "b is of never NEWLINE ", "a 2 : 1 0 \n b": "2 3 6", "a 2 : 1 0 \n b 2": ": of", "a 2 : 1 0 \n b 2 of": "a",
            "a 2 : 1 0 \n b 2 of a": ":", "a 2 : 1 0 \n b 2 of a : 1 0": "/ ,", "a 2 : 1 0 \n b 2 of a : 1 0 ,": "0 NUMBERS",
            "a 2 : 1 0 \n b 2 of a : 1 0 , 0 1": "/ NEWLINE ", "a 2 : 1 0 \n b 2 of a : 0 2 / 2": ",", "a 2 : 1 0 \n b 2 of a : 1": "0 /",
            two: ": of", two + " of": "a of", two + " of of": "a :", two + " of of a": ":", two + " of a of :": "0 NUMBERS",
            two + " of of a : 1 0 , 1 0 , 1 0": ", /", two + " of of a : 1 0 , 1 0 , 1 0 , 1 0": "NEWLINE / ",
            many + "a 2 of h g f": ":", many + "a 2 of c d e f": ":", "is 2 : 1 0 \n of 2 of": "is",
        })
        self.completes(read_net, completed_net, "a 2 : 1 / 7 12 / 14")

    def test_example(self):
        self.assertEqual(read_net(EXAMPLE).things[2], ("crust", 2, (0, 1), (HALF, ALL, NONE, NONE)))
        self.assertEqual(read_net(EXAMPLE), NET)
        self.assertIs(type(read_net(EXAMPLE)), Net)
        self.assertEqual(read_net(text=EXAMPLE), NET)
        self.assertEqual(completed_net(text="a 2: 1")[:6], "a 2: 1")
        net = read_net("kiln 2: 1/4 3/4\nchip 2 of kiln: 2/3 1/3, 1/6 5/6")
        self.assertEqual(net.things[0], ("kiln", 2, (), (((1, 4), (3, 4)),)))

    def test_no_string(self):
        self.no_strings(read_net, completed_net)

    def test_blanks_and_empty_lines(self):
        told = read_net("a 2: 1 0\nb 2 of a: 1/2 1/2, 0 1")
        for text in ("\n\na 2:1 0\n  \nb 2of a:1 / 2 1/ 2,0 1\n\n \n", "  a  2 :  1 0  \n b 2 of a : 2/4 3/6 ,0 7/7",
                     "a 2: 1 0\nb 2 of a: 1/2 1/2, 0/9 1\n"):
            self.assertEqual(read_net(text), told)

    def test_begun(self):
        text = EXAMPLE
        for end in range(len(text)):
            part = text[:end]
            last = [mark for mark in marks_of(part)][-1:]
            if last == [] or marks_of(text)[len(marks_of(part)) - 1] == last[0]:
                self.completes(read_net, completed_net, part)
        for part in ("", "\n", " \n\n ", "a", "a 2", "a 2:", "a 2: 1", "a 2: 0 ", "a 2: 1/", "a 2: 1 0\nb", "a 2: 1 0\nb 2 of",
                     "a 2: 1 0\nb 2 of a", "a 2: 1 0\nb 2 of a:", "a 2: 1 0\nb 2 of a: 1 0", "a 2: 1 0\nb 2 of a: 1 0,",
                     "a 2: 5", "a 2: 1/2 5", "a 3: 1/2 1/3 5", "a 2: 1/2 1/", "a 6: 0 0 0 0 0", "a 2: 1/2 3"):
            self.is_begun(read_net, completed_net, part)

    def test_refused(self):
        told = {
            "flour 2: 3/4 2/5": (0, 15), "1": (0, 0), ":": (0, 0), "A 2: 1 0": (0, 0), "abcdefg 2": (0, 0), "a a": (0, 2),
            "a 1": (0, 2), "a 7": (0, 2), "a 02": (0, 2), "a 0": (0, 2), "a 22": (0, 2), "a \n": (0, 2), "a 2 2": (0, 4),
            "a 2 of": (0, 4), "a 2 b": (0, 4), "a 2\n": (0, 3), "a 2: :": (0, 5), "a 2: a": (0, 5), "a 2: ,": (0, 5),
            "a 2: 1 0 0": (0, 9), "a 2: 1 0,": (0, 8), "a 2: 1 0;": (0, 8), "a 2: 1,": (0, 6), "a 2: 1\n": (0, 6),
            "a 2: 00": (0, 5), "a 2: 01": (0, 5), "a 2: 1/0": (0, 7), "a 2: 1/01": (0, 7), "a 2: 1//": (0, 7),
            "a 2: 1/2/": (0, 8), "a 2: -1": (0, 5), "a 2: 2 1": (0, 7), "a 2: 3/2": (0, 7), "a 2: 1 1": (0, 7),
            "a 2: 0 0": (0, 7), "a 2: 1/2 0": (0, 9), "a 2: 2/3 1 ": None, "a 2: 2/3 1\n": (0, 10), "a 2: 1/3 3": (0, 9),
            "a 2: 1/3 2/4": (0, 11), "a 2: 1 0/": None, "a 2: 1 0/0": (0, 9), "a 2: 0 2/1": (0, 9), "a 3: 1 0 1": (0, 9),
            "a 3: 1 1": (0, 7), "a 3: 1/2 1/2 1": (0, 13), "a 2: 1 0\na": (1, 0), "a 2: 1 0\nb 2 of a a": (1, 9),
            "a 2: 1 0\nb 2 of b": (1, 7), "a 2: 1 0\nb 2 of c": (1, 7), "a 2: 1 0\nb 2 of :": (1, 7),
            "a 2: 1 0\nb 2 of a 2": (1, 9), "a 2: 1 0\nb 2 of a: 1 0\n": (1, 13), "a 2: 1 0\nb 2 of a: 1 0 1": (1, 14),
            "a 2: 1 0\nb 2 of a: 1 0, 0 1,": (1, 18), "a 2: 1 0\nb 2 of a: 1 0,,": (1, 14), "a 2: 1 0\n3": (1, 0),
            "a 2: 1 0 b": (0, 9), "a 2: 1 0 of": (0, 9), "a 2: 1.0": (0, 6), "a 2: 1 0)": (0, 8),
            "a 2: 1 0\nb 2: 1 0\nc 2: 1 0\nd 2: 1 0\ne 2: 1 0\nf 2 of b a d c e": (5, 15),
        }
        for text, place in told.items():
            if place is None:
                self.is_begun(read_net, completed_net, text)
            else:
                self.refuses(read_net, completed_net, text, *place)

    def test_names(self):
        text = "of 2: 1 0\nis 2 of of: 1 0, 0 1\nnever 2 of is of: 1 0, 0 1, 1/2 1/2, 1 0\nfinish 2: 1 0"
        net = read_net(text)
        self.assertEqual([thing[0] for thing in net.things], ["of", "is", "never", "finish"])
        self.assertEqual(net.things[2][2:], ((0, 1), (NONE, HALF, ALL, NONE)))
        self.refuses(read_net, completed_net, "of 2: 1 0\nis 2 of is", 1, 8)
        self.refuses(read_net, completed_net, "of 2 of", 0, 5)
        self.refuses(read_net, completed_net, "of 2: 1 0\nis 2 of of of", 1, 11)

    def test_many_digits(self):
        for digits in (64, 65, 128, 400, 5000):
            nines = "9" * digits
            bottom = int("1" + "0" * 64) ** (digits // 64) * 10 ** (digits % 64)
            text = f"a 2: {nines}/1{'0' * digits} 1/1{'0' * digits}"
            self.assertEqual(read_net(text).things[0][3], ((pair_of(Fraction(bottom - 1, bottom)), (1, bottom)),))
            self.assertEqual(show_net(read_net(text)), text)
            for end in (text.index("/"), text.index("/") + 1, text.rindex("/"), text.rindex("/") + 1):
                self.is_begun(read_net, completed_net, text[:end])
            self.refuses(read_net, completed_net, text + "0", 0, len(f"a 2: {nines}/1{'0' * digits} 1/"))
            zeros = f"a 2: 0{nines}"
            self.refuses(read_net, completed_net, zeros, 0, 5)
            self.refuses(read_net, completed_net, f"a {nines}", 0, 2)
            self.completes(read_net, completed_net, f"a 2: {nines}")
            self.completes(read_net, completed_net, f"a 2: {nines}/1{'0' * digits} {nines}")
            self.refuses(read_net, completed_net, f"a 2: {nines} 0", 0, digits + 6)
        long = "3" * 400
        lack = 1 - Fraction(3, int(long))
        text = f"a 3: 1/{long} 2/{long} {5 * lack.numerator}"
        self.assertEqual(words_of(self.completes(read_net, completed_net, text))[-1], str(5 * lack.denominator))
        self.refuses(read_net, completed_net, f"a 3: 1/{long} 2/{long} {5 * lack.numerator + 1}", 0, len("a 3: 1/ 2/ ") + 800)

    def test_each_row_of_small_marks(self):
        """Whether a row can be gone on with is told by trying all rows with larger numerals."""
        bottoms = range(1, 70)
        begun = {()}
        for tops in product(range(5), repeat=2):
            ones = [((str(tops[0]),), Fraction(tops[0]))]
            ones += [((str(tops[0]), "/", str(b)), Fraction(tops[0], b)) for b in bottoms if b < 10]
            others = [((str(tops[1]),), Fraction(tops[1]))]
            others += [((str(tops[1]), "/", str(b)), Fraction(tops[1], b)) for b in bottoms]
            for one, value in ones:
                for other, rest in others:
                    if value + rest == 1:
                        row = one + other + ("\n",)
                        begun |= {row[:end] for end in range(len(row) + 1)}
        tried = 0
        for many in range(1, 7):
            for marks in product(("0", "1", "2", "3", "4", "/", "\n"), repeat=many):
                if marks[:-1] in begun and "\n" not in marks[:-1]:
                    tried += 1
                    try:
                        completed_net("a 2: " + " ".join(marks))
                    except InvalidText:
                        self.assertNotIn(marks, begun)
                    else:
                        self.assertIn(marks, begun)
        self.assertGreater(tried, 500)

    def test_again(self):
        for rng in drawn(80, 50):
            net = draw_net(rng, cases=6, parents=4) if rng.random() < 0.3 else draw_net(rng)
            text = show_net(net)
            self.assertEqual(read_net(text), net)
            self.assertEqual(read_net_again(text), net.things)
            self.assertEqual(completed_net(text), text)

    def test_no_text_has_fewer_marks(self):
        for rng in drawn(30, 51):
            net = draw_net(rng, rng.randint(1, 3))
            many = len(marks_of(show_net(net)))
            # Of each thing the marks that no text lacks, and each fraction in lowest terms.
            due = len(net.things) - 1
            for _, count, parents, rows in net.things:
                due += 3 + (1 + len(parents) if parents else 0) + len(rows) - 1
                due += sum(1 if bottom == 1 else 3 for row in rows for _, bottom in row)
            self.assertEqual(many, due)

    def test_other_texts_of_a_net(self):
        for rng in drawn(60, 52):
            net = draw_net(rng)
            lines = []
            for name, count, parents, rows in net.things:
                order = rng.sample(range(len(parents)), len(parents))
                fillings = list(product(*[range(net.things[parent][1]) for parent in parents]))
                told = sorted(fillings, key=lambda filling: [filling[at] for at in order])
                texts = []
                for filling in told:
                    factors = [(rng.randint(1, 3), fraction) for fraction in rows[fillings.index(filling)]]
                    texts.append(" ".join(
                        f"{k * top}/{k * bottom}" if k > 1 or bottom > 1 else str(top) for k, (top, bottom) in factors))
                head = f"{name} {count}" + (" of " + " ".join(net.things[parents[at]][0] for at in order) if parents else "")
                lines.append(head + ":" + ",".join(texts) + "\n" * rng.randint(0, 2))
            self.assertEqual(read_net("\n".join(lines)), net)

    def test_spoilt(self):
        taken = 0
        for rng in drawn(500, 53):
            text = show_net(draw_net(rng, rng.randint(1, 3), parents=2))
            marks = [mark for _, _, mark in marks_of(text)]
            at = rng.randrange(len(marks))
            other = rng.choice(["a", "b", "of", "is", "0", "1", "2", "3", "4", "00", "7", ":", ",", "/", "\n", ";", "!", "X", "-"]
                               + marks)
            for new in ([other], [other, marks[at]], []):
                spoilt = " ".join(marks[:at] + new + marks[at + 1:])
                taken += self.judges(read_net, completed_net, spoilt)
        self.assertGreater(taken, 10)


class TestNews(TestTexts):
    def test_each_mark(self):
        net = Net((("a", 2, (), (HALF,)), ("is", 3, (), (((1, 3),) * 3,))))
        self.each_mark(lambda text: read_news(net, text), lambda text: completed_news(net, text), {
            "": "a is ", "a": ": is", "is": ": is", "a is": "0 1", "is is": "0 1 2", "a is 1": "; ", "a :": "0 NUMBERS", "a : 0": "NUMBERS /",
            "a : 1": "0 NUMBERS /", "a : 0 /": "NUMBERS", "a : 1 /": "NUMBERS", "a : 0 / 3": "NUMBERS", "a : 1 / 3": "0 NUMBERS",
            "a : 0 1": "/ ; ", "a : 1 0": "/ ; ", "a : 1 0 /": "NUMBERS", "a : 0 1 / 2": "; ", "a is 0 ;": "is", "a : 7 7 ;": "is",
            "is : 0": "0 NUMBERS /", "is : 0 0": "NUMBERS /", "is : 0 0 / 2": "NUMBERS", "is : 0 1 /": "NUMBERS", "is : 1 0 0": "/ ; ",
            "is is 0 ;": "a", "is is 0 ; a": ": is", "a is 0 ; is is 0": "", "a is 0 ; is : 1 1 1": "/ ", "is : 1 1 1 ; a : 0 3 / 2": "",
        })

    def read(self, text):
        return read_news(NET, text)

    def complete(self, text):
        return completed_news(NET, text)

    def test_example(self):
        told = ((0, ((1, 2), (3, 1))), (2, ((0, 1), (1, 1))))
        self.assertEqual(read_news(NET, "crust is 1; flour: 1/2 3"), told)
        self.assertEqual(read_news(net=NET, text="flour:2/4 6/2;crust  is 1"), told)
        self.assertEqual(completed_news(net=NET, text="salt is")[:7], "salt is")

    def test_no_string(self):
        self.no_strings(self.read, self.complete)

    def test_no_mark(self):
        for text in ("", " ", "     "):
            self.assertEqual(read_news(NET, text), ())
            self.assertEqual(self.completes(self.read, self.complete, text), text)

    def test_refused(self):
        told = {
            "\n": (0, 0), "flour is 0\n": (0, 10), ";": (0, 0), "pepper": (0, 0), "is": (0, 0), "1": (0, 0), "flour 1": (0, 6),
            "flour of": (0, 6), "flour ;": (0, 6), "flour is 2": (0, 9), "flour is 00": (0, 9), "flour is 01": (0, 9),
            "flour is never": (0, 9), "flour is ;": (0, 9), "flour is 0 1": (0, 11), "flour is 0/": (0, 10),
            "flour is 0;;": (0, 11), "flour is 0; flour": (0, 12), "flour: ;": (0, 7), "flour: 1;": (0, 8),
            "flour: 1 1 1": (0, 11), "flour: 1 /": None, "flour: 0 0": (0, 9), "flour: 0/3 0": (0, 11), "flour: 1/0": (0, 9),
            "flour: 1/2/": (0, 10), "flour: -1": (0, 7), "flour: 01": (0, 7), "flour: 00": (0, 7), "flour: 1,": (0, 8),
            "flour is 0; salt is 0; crust is 1;": (0, 33), "flour is 0; salt is 0; flour": (0, 23), "flour: 1 0 salt": (0, 11),
            "flour is 0 salt": (0, 11), "flour is 0, salt": (0, 10), "flour: 0 0/": (0, 9), "flour: 1 0/0": (0, 11),
        }
        for text, place in told.items():
            if place is None:
                self.is_begun(self.read, self.complete, text)
            else:
                self.refuses(self.read, self.complete, text, *place)

    def test_begun(self):
        for text in ("flour", "flour is", "flour:", "flour: 1", "flour: 0 ", "flour: 1/", "flour: 0 1/", "flour is 0;",
                     "flour: 1 2;", "flour is 0; salt", "flour is 1; salt is 1; crust", "flour: 1 0; "):
            self.is_begun(self.read, self.complete, text)
        self.refuses(lambda text: read_news(ONE, text), lambda text: completed_news(ONE, text), "a is 0;", 0, 6)

    def test_names(self):
        self.assertEqual(read_news(WORDS, "never is 1; is is 2; of: 1 0"),
                         (finding(WORDS, 0, 2), finding(WORDS, 1, 0), finding(WORDS, 2, 1)))
        self.refuses(lambda text: read_news(WORDS, text), lambda text: completed_news(WORDS, text), "is is is", 0, 6)

    def test_finding(self):
        self.assertEqual(read_news(WORDS, "is is 1"), read_news(WORDS, "is: 0 1 0"))
        self.assertEqual(read_news(NET, "flour: 0/7 12/4"), ((0, ((0, 1), (3, 1))),))
        long = "9" * 400
        self.assertEqual(read_news(NET, f"flour: {long} 1/{long}"), ((0, ((int(long), 1), (1, int(long)))),))

    def test_again(self):
        for rng in drawn(120, 54):
            net = draw_net(rng)
            news = draw_news(rng, net)
            text = show_news(net, news)
            self.assertEqual(read_news(net, text), news)
            items = text.split("; ")
            rng.shuffle(items)
            told = read_news(net, " ;".join(items))
            self.assertEqual(told, news)
            check_news(net, told)
            due = max(0, len(news) - 1)
            for _, weights in news:
                plain = 2 + sum(1 if bottom == 1 else 3 for _, bottom in weights)
                due += min(plain, 3) if sorted(weights) == [(0, 1)] * (len(weights) - 1) + [(1, 1)] else plain
            self.assertEqual(len(marks_of(text)), due)

    def test_spoilt(self):
        taken = 0
        for rng in drawn(500, 55):
            net = draw_net(rng, rng.randint(1, 3))
            names = [thing[0] for thing in net.things]
            text = show_news(net, draw_news(rng, net, 0.9))
            marks = words_of(text) or ["is"]
            at = rng.randrange(len(marks))
            other = rng.choice(["is", ":", ";", "/", "0", "1", "2", "3", "00", "never", "\n", "(", ","] + names)
            for new in ([other], [other, marks[at]], []):
                spoilt = " ".join(marks[:at] + new + marks[at + 1:])
                if self.judges(lambda told: read_news(net, told), lambda told: completed_news(net, told), spoilt):
                    self.assertEqual(read_news(net, spoilt), read_news_again(net, spoilt))
                    taken += 1
        self.assertGreater(taken, 50)


def claims_by_length(names, cases, most):
    """All texts of claims with at most so many marks, by their number, from the grammar alone."""
    leaves = {}
    for name in names:
        for many in range(len(cases) + 1):
            for chosen in permutations(cases, many):
                marks = (name, "is") + (chosen or ("never",))
                leaves.setdefault(len(marks), set()).add(marks)
    part, both, either = {}, {}, {}
    for size in range(1, most + 1):
        part[size] = set(leaves.get(size, ()))
        part[size] |= {("!",) + text for text in part.get(size - 1, ())}
        part[size] |= {("(",) + text + (")",) for text in either.get(size - 2, ())}
        both[size] = set(part[size])
        for first in range(1, size - 1):
            both[size] |= {a + ("&",) + b for a in both[first] for b in part[size - 1 - first]}
        either[size] = set(both[size])
        for first in range(1, size - 1):
            either[size] |= {a + ("|",) + b for a in either[first] for b in both[size - 1 - first]}
    return either


class TestClaims(TestTexts):
    def test_each_mark(self):
        net = Net((("a", 2, (), (HALF,)), ("is", 3, (), (((1, 3),) * 3,))))
        self.each_mark(lambda text: read_claim(net, text), lambda text: completed_claim(net, text), {
            "": "a is ! (", "a": "is", "is": "is", "a is": "never 0 1", "is is": "never 0 1 2", "a is 0": "1 & | ", "a is 0 1": "& | ",
            "a is never": "& | ", "is is 2": "0 1 & | ", "is is 2 0": "1 & | ", "!": "a is ! (", "(": "a is ! (", "( a is 0": "1 & | )",
            "( a is 0 )": "& | ", "( ( a is 0 )": "& | )", "a is 0 &": "a is ! (", "a is 0 |": "a is ! (", "a is 0 & ( a is 1 |": "a is ! (",
            "! ( a is never": "& | )", "! ! is is 0 1 2": "& | ", "( is is 0 1 2": "& | )", "( ! a": "is", "( ! a is": "never 0 1",
        })

    def read(self, text):
        return read_claim(NET, text)

    def complete(self, text):
        return completed_claim(NET, text)

    def test_example(self):
        text = "!crust is never & (flour is 1 0 | (salt is 1))"
        told = ("and", ("not", ("is", 2, ())), ("or", ("is", 0, (0, 1)), ("is", 1, (1,))))
        self.assertEqual(read_claim(NET, text), told)
        self.assertEqual(read_claim(net=NET, text=text), told)
        self.assertEqual(completed_claim(net=NET, text="!")[:1], "!")

    def test_no_string(self):
        self.no_strings(self.read, self.complete)

    def test_parts(self):
        a, b, c = ("is", 0, (0,)), ("is", 1, (0,)), ("is", 2, (0,))
        told = {
            "A & (B & C)": ("and", a, ("and", b, c)), "A & B & C": ("and", a, b, c), "(A & B) & C": ("and", ("and", a, b), c),
            "A | B & C": ("or", a, ("and", b, c)), "A & B | C": ("or", ("and", a, b), c), "A | B | C": ("or", a, b, c),
            "(A | B) & C": ("and", ("or", a, b), c), "A | (B | C)": ("or", a, ("or", b, c)), "((A))": a, "(A) & ((B))": ("and", a, b),
            "!A & B": ("and", ("not", a), b), "!(A & B)": ("not", ("and", a, b)), "!!A": ("not", ("not", a)), "!(!A)": ("not", ("not", a)),
            "!A | !B & !C": ("or", ("not", a), ("and", ("not", b), ("not", c))), "(((A | B)) | C)": ("or", ("or", a, b), c),
            "!((A | B))": ("not", ("or", a, b)), "A&B|C&A": ("or", ("and", a, b), ("and", c, a)), "((!(A)))": ("not", a),
        }
        for text, claim in told.items():
            text = text.replace("A", "flour is 0").replace("B", "salt is 0").replace("C", "crust is 0")
            self.assertEqual(read_claim(NET, text), claim, text)
            self.assertEqual(read_claim(NET, text.replace(" ", "   ").replace("(", "(  ")), claim)

    def test_refused(self):
        told = {
            "\n": (0, 0), "flour is 0\n": (0, 10), "flour is\n": (0, 8), "never": (0, 0), "is": (0, 0), "0": (0, 0), "&": (0, 0),
            ")": (0, 0), "()": (0, 1), "(&": (0, 1), "!)": (0, 1), "!&": (0, 1), "flour 0": (0, 6), "flour & ": (0, 6),
            "flour is &": (0, 9), "flour is )": (0, 9), "flour is is": (0, 9), "flour is 2": (0, 9), "flour is 00": (0, 9),
            "flour is 0 0": (0, 11), "flour is 0 1 0": (0, 13), "flour is 0 never": (0, 11), "flour is never 0": (0, 15),
            "flour is never never": (0, 15), "flour is 0 flour": (0, 11), "flour is 0)": (0, 10), "flour is 0 (": (0, 11),
            "flour is 0 !": (0, 11), "flour is 0 & &": (0, 13), "flour is 0 & )": (0, 13), "flour is 0 & 0": (0, 13),
            "(flour is 0))": (0, 12), "(flour is 0) 1": (0, 13), "(flour is 0) (": (0, 13), "flour is 0; salt is 1": (0, 10),
            "flour: 1 0": (0, 5), "flour is 0/": (0, 10), "flour is 0 && salt is 1": (0, 12), "flour is 0 | | salt": (0, 13),
            "flour is 01": (0, 9), "pepper is 0": (0, 0), "flour is 0 and": (0, 11), "(flour is 0 &)": (0, 13),
        }
        for text, place in told.items():
            self.refuses(self.read, self.complete, text, *place)

    def test_begun(self):
        for text in ("", "  ", "flour", "flour is", "!", "!!", "(", "((", "(!(", "flour is 0 &", "flour is 0 |", "(flour is 0",
                     "(flour is never", "(flour is 0 1", "flour is 0 & !", "flour is 0 | (", "((flour is 0) & salt is 1",
                     "flour is 0 & salt", "flour is never & "):
            self.is_begun(self.read, self.complete, text)

    def test_names(self):
        self.assertEqual(read_claim(WORDS, "is is 2 0"), ("is", 0, (0, 2)))
        self.assertEqual(read_claim(WORDS, "never is never & of is never"), ("and", ("is", 2, ()), ("is", 1, ())))
        self.assertEqual(read_claim(WORDS, "is is never"), ("is", 0, ()))
        for text in ("is is is", "is is of", "of never", "never never"):
            place = text.rindex(" ") + 1
            self.refuses(lambda told: read_claim(WORDS, told), lambda told: completed_claim(WORDS, told), text, 0, place)

    def test_each_sequence_of_marks(self):
        """Which marks can begin a claim, by all claims that the grammar gives."""
        marks = ("a", "is", "0", "1", "never", "!", "(", ")", "&", "|", "b", "2", ";")
        texts = claims_by_length(["a"], ["0", "1"], 11)
        whole = set().union(*texts.values())
        begun = {text[:end] for text in whole for end in range(5)}
        seen = {()}
        for many in range(1, 5):
            for told in [before + (mark,) for before in sorted(seen) if len(before) == many - 1 for mark in marks]:
                text = " ".join(told)
                try:
                    completed_claim(ONE, text)
                except InvalidText as error:
                    self.assertNotIn(told, begun)
                    self.assertEqual((error.line, error.at), (0, len(" ".join(told[:-1])) + 1 if many > 1 else 0))
                else:
                    self.assertIn(told, begun)
                    seen.add(told)
                try:
                    claim = read_claim(ONE, text)
                except InvalidText:
                    self.assertNotIn(told, whole)
                else:
                    self.assertIn(told, whole)
                    self.assertEqual(claim, read_claim_again(ONE, text))

    def test_fewest_marks(self):
        fewest = {}
        for size, texts in sorted(claims_by_length(["a"], ["0", "1"], 10).items()):
            for text in texts:
                claim = read_claim(ONE, " ".join(text))
                shown = tuple(words_of(show_claim(ONE, claim)))
                self.assertEqual(len(shown), fewest.setdefault(claim, size))
                self.assertEqual(read_claim(ONE, " ".join(shown)), claim)

    def test_deep(self):
        for sign in ("!", "("):
            text = sign * 50000
            with self.assertRaises(InvalidText) as caught:
                read_claim(NET, text)
            self.assertEqual((caught.exception.line, caught.exception.at), (0, 50000))
        text = "(" * 3000 + "flour is 0" + ")" * 3000
        self.assertEqual(read_claim(NET, text), ("is", 0, (0,)))
        self.refuses(self.read, self.complete, text + ")", 0, len(text))
        self.assertEqual(show_claim(NET, read_claim(NET, "!" * 3000 + "flour is 0")), "!" * 3000 + "flour is 0")

    def test_again(self):
        for rng in drawn(200, 56):
            net = draw_net(rng)
            claim = draw_claim(rng, net)
            text = show_claim(net, claim)
            self.assertEqual(read_claim(net, text), claim)
            self.assertEqual(completed_claim(net, text), text)

    def test_spoilt(self):
        taken = 0
        for rng in drawn(600, 57):
            net = draw_net(rng, rng.randint(1, 3))
            names = [thing[0] for thing in net.things]
            marks = words_of(show_claim(net, draw_claim(rng, net, 3)))
            at = rng.randrange(len(marks))
            other = rng.choice(["is", "never", "0", "1", "2", "(", ")", "!", "&", "|", "\n", ";", "/", "00"] + names)
            for new in ([other], [other, marks[at]], []):
                spoilt = " ".join(marks[:at] + new + marks[at + 1:])
                if self.judges(lambda told: read_claim(net, told), lambda told: completed_claim(net, told), spoilt):
                    self.assertEqual(read_claim(net, spoilt), read_claim_again(net, spoilt))
                    check_claim(net, read_claim(net, spoilt))
                    taken += 1
        self.assertGreater(taken, 100)

    def test_kinds_of_errors(self):
        with self.assertRaises(NetError):
            read_claim(NET, "")


if __name__ == "__main__":
    unittest.main()
