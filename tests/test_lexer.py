"""Point 12: marks."""

import re
import unittest

from allworlds.lexer import marks_of
from tests.drawn import drawn


def plain_marks(text):
    """The marks by a pattern, each newline with the line that it ends."""
    marks = []
    for line, row in enumerate(text.split("\n")):
        if line:
            marks.append((line - 1, last, "\n"))
        last = len(row)
        marks += [(line, found.start(), found.group()) for found in re.finditer("[a-z]+|[0-9]+|[^ ]", row)]
    return tuple(marks)


class TestMarks(unittest.TestCase):
    def test_kinds(self):
        self.assertEqual(marks_of("flour 2: 1/3 2/3"), (
            (0, 0, "flour"), (0, 6, "2"), (0, 7, ":"), (0, 9, "1"), (0, 10, "/"), (0, 11, "3"), (0, 13, "2"),
            (0, 14, "/"), (0, 15, "3")))
        self.assertEqual(marks_of("ab12cd"), ((0, 0, "ab"), (0, 2, "12"), (0, 4, "cd")))
        self.assertEqual(marks_of("ABc"), ((0, 0, "A"), (0, 1, "B"), (0, 2, "c")))
        self.assertEqual(marks_of("007"), ((0, 0, "007"),))
        self.assertEqual(marks_of("!!--"), ((0, 0, "!"), (0, 1, "!"), (0, 2, "-"), (0, 3, "-")))

    def test_empty(self):
        self.assertEqual(marks_of(""), ())
        self.assertEqual(marks_of("   "), ())

    def test_newlines(self):
        self.assertEqual(marks_of("\n"), ((0, 0, "\n"),))
        self.assertEqual(marks_of("\n\n"), ((0, 0, "\n"), (1, 0, "\n")))
        self.assertEqual(marks_of(" a \nb\n"), ((0, 1, "a"), (0, 3, "\n"), (1, 0, "b"), (1, 1, "\n")))
        self.assertEqual(marks_of("a\nb"), ((0, 0, "a"), (0, 1, "\n"), (1, 0, "b")))

    def test_each_sign(self):
        for code in range(32, 127):
            sign = chr(code)
            self.assertEqual(marks_of("  " + sign + " "), () if sign == " " else ((0, 2, sign),))

    def test_runs_end(self):
        self.assertEqual(marks_of("ab cd"), ((0, 0, "ab"), (0, 3, "cd")))
        self.assertEqual(marks_of("12 34"), ((0, 0, "12"), (0, 3, "34")))
        self.assertEqual(marks_of("ab\ncd"), ((0, 0, "ab"), (0, 2, "\n"), (1, 0, "cd")))
        self.assertEqual(marks_of("a{`z9:/0"), (
            (0, 0, "a"), (0, 1, "{"), (0, 2, "`"), (0, 3, "z"), (0, 4, "9"), (0, 5, ":"), (0, 6, "/"), (0, 7, "0")))

    def test_drawn(self):
        for rng in drawn(300, 4):
            text = "".join(rng.choice("abz 019 \n!:/A~{`") for _ in range(rng.randint(0, 30)))
            self.assertEqual(marks_of(text), plain_marks(text))

    def test_long(self):
        self.assertEqual(marks_of("9" * 400), ((0, 0, "9" * 400),))
        self.assertEqual(len(marks_of("a 1\n" * 20000)), 60000)


if __name__ == "__main__":
    unittest.main()
