"""Numerals and rows of fractions in texts, read mark by mark."""

from allworlds.numbers import ONE, fraction_of, taken
from allworlds.printer import PIECE, PIECE_BOUND, show_number


def is_numeral(mark):
    """Whether a mark is a numeral."""
    return "0" <= mark[0] <= "9" and (mark == "0" or mark[0] != "0")


def number_in(numeral):
    """The number that a numeral tells."""
    # Python reads numbers of some thousand digits only in pieces.
    head = len(numeral) - len(numeral) // PIECE * PIECE
    number = int("0" + numeral[:head])
    for start in range(head, len(numeral), PIECE):
        number = number * PIECE_BOUND + int(numeral[start:start + PIECE])
    return number


class RowReading:
    """The reading of so many fractions from 0 on: with the sum 1, or, as weights, not all 0."""

    def __init__(self, count, as_weights):
        self.count = count
        self.as_weights = as_weights
        self.done = []
        # What the fractions so far lack to the sum 1.
        self.lack = ONE
        # The numeral that may be a whole fraction, or its top; and whether "/" came behind it.
        self.top = None
        self.is_cut = False

    def take(self, mark):
        """Whether some such row begins with a mark behind those before; if so, it is taken."""
        if self.is_cut:
            return is_numeral(mark) and mark != "0" and self.settle(number_in(mark))
        if self.top is not None and mark == "/":
            self.is_cut = True
            return True
        if self.top is not None and not self.settle(1):
            return False
        if len(self.done) == self.count or not is_numeral(mark):
            return False
        self.top = number_in(mark)
        return self.has_bottom()

    def settle(self, bottom):
        """Whether the fraction begun can have a bottom; if so, it is done."""
        if not self.fits(bottom):
            return False
        self.done.append(fraction_of(self.top, bottom))
        if not self.as_weights:
            self.lack = taken(self.lack, self.done[-1])
        self.top = None
        self.is_cut = False
        return True

    def is_last(self):
        """Whether the fraction begun, or the next one, is the last."""
        return len(self.done) + 1 == self.count

    def fits(self, bottom):
        """Whether the fraction begun can have a bottom."""
        if self.as_weights:
            return self.has_bottom()
        # The fraction by what is lacking, both times the bottoms of both.
        whole = self.top * self.lack[1]
        room = self.lack[0] * bottom
        return whole == room if self.is_last() else whole <= room

    def has_bottom(self):
        """Whether the fraction begun can have some bottom."""
        if self.as_weights:
            return not self.is_last() or self.top > 0 or any([fraction[0] > 0 for fraction in self.done])
        if self.top == 0 or self.lack[0] == 0:
            return self.top == 0 and (self.lack[0] == 0 or not self.is_last())
        return not self.is_last() or self.top % self.lack[0] == 0

    def some_bottom(self):
        """Some bottom that the fraction begun can have."""
        if self.top == 0:
            return 1
        # The least one with which it is at most what is lacking: for the last one, just this.
        return (self.top * self.lack[1] + self.lack[0] - 1) // self.lack[0]

    def is_whole(self):
        """Whether the marks so far are such a row."""
        if self.top is None:
            return len(self.done) == self.count
        return not self.is_cut and self.is_last() and self.fits(1)

    def next_mark(self):
        """A mark that can follow, if this is no such row yet."""
        if self.is_cut:
            return show_number(self.some_bottom())
        if self.top is not None:
            return "/"
        return show_number(self.lack[0]) if self.is_last() else "0"

    def fractions(self):
        """The fractions of a row that is whole."""
        if self.top is not None:
            self.settle(1)
        return tuple(self.done)
