"""Texts of news, read mark by mark."""

from allworlds.nets import finding
from allworlds.rowtexts import RowReading, is_numeral, number_in


class NewsReading:
    """The reading of the text of news of a net."""

    def __init__(self, net):
        self.net = net
        self.numbers = {row[0]: thing for thing, row in enumerate(net.things)}
        # What comes next: start (a name or nothing), name, sort (":" or "is"), case, weights, end.
        self.due = "start"
        self.thing = 0
        self.weights = None
        self.found = {}

    def take(self, mark):
        """Whether some news begin with a mark behind those before; if so, it is taken."""
        if self.due == "start" or self.due == "name":
            return self.take_name(mark)
        if self.due == "sort":
            return self.take_sort(mark)
        if self.due == "case":
            return self.take_case(mark)
        if mark == ";":
            return self.begin_item()
        return self.due == "weights" and self.weights.take(mark)

    def take_name(self, mark):
        """Take the name of a thing that is not told yet."""
        if mark not in self.numbers or self.numbers[mark] in self.found:
            return False
        self.thing = self.numbers[mark]
        self.due = "sort"
        return True

    def take_sort(self, mark):
        """Take what tells whether weights or a case follow."""
        self.due = "case" if mark == "is" else "weights"
        self.weights = RowReading(self.net.things[self.thing][1], True)
        return mark == "is" or mark == ":"

    def take_case(self, mark):
        """Take the case of a finding."""
        if not is_numeral(mark) or number_in(mark) >= self.net.things[self.thing][1]:
            return False
        _, self.found[self.thing] = finding(self.net, self.thing, number_in(mark))
        self.due = "end"
        return True

    def begin_item(self):
        """Begin one more item, if the one before is whole and some thing is not told yet."""
        if not self.is_whole():
            return False
        self.end_item()
        self.due = "name"
        return len(self.found) < len(self.numbers)

    def end_item(self):
        """Keep the weights of an item that is whole."""
        if self.due == "weights":
            self.found[self.thing] = self.weights.fractions()

    def is_whole(self):
        """Whether the marks so far are the text of news."""
        if self.due == "weights":
            return self.weights.is_whole()
        return self.due == "start" or self.due == "end"

    def next_mark(self):
        """A mark that can follow, if this is no text of news yet."""
        if self.due == "weights":
            return self.weights.next_mark()
        if self.due == "sort":
            return "is"
        if self.due == "case":
            return "0"
        return [name for name, thing in self.numbers.items() if thing not in self.found][0]

    def result(self):
        """The news that a whole text tells."""
        self.end_item()
        return tuple([(thing, self.found[thing]) for thing in sorted(self.found)])
