"""Texts of nets, read mark by mark."""

from allworlds.fillings import at_places, fill_count, filling_number, fillings_of
from allworlds.kinds import is_name
from allworlds.nets import Net
from allworlds.rowtexts import RowReading, is_numeral, number_in

MOST_CASES = 6
MOST_PARENTS = 4


class RowsReading:
    """The reading of so many rows with commas between them."""

    def __init__(self, count, many):
        self.count = count
        self.many = many
        self.done = []
        self.row = RowReading(count, False)

    def take(self, mark):
        """Whether some such rows begin with a mark behind those before; if so, it is taken."""
        if mark != ",":
            return self.row.take(mark)
        if not self.row.is_whole() or len(self.done) + 1 == self.many:
            return False
        self.done.append(self.row.fractions())
        self.row = RowReading(self.count, False)
        return True

    def is_whole(self):
        """Whether the marks so far are such rows."""
        return len(self.done) + 1 == self.many and self.row.is_whole()

    def next_mark(self):
        """A mark that can follow, if these are no such rows yet."""
        return "," if self.row.is_whole() else self.row.next_mark()

    def result(self):
        """The rows, if they are whole."""
        return tuple(self.done) + (self.row.fractions(),)


class NetReading:
    """The reading of the text of a net."""

    def __init__(self):
        self.things = []
        self.numbers = {}
        # What comes next: name, count, head ("of" or ":"), parent, parents (or ":"), rows.
        self.due = "name"
        self.name = ""
        self.count = 0
        self.parents = []
        self.rows = None

    def take(self, mark):
        """Whether some net begins with a mark behind those before; if so, it is taken."""
        if self.due == "name":
            return mark == "\n" or self.take_name(mark)
        if self.due == "count":
            return self.take_count(mark)
        if self.due == "rows":
            return self.end_line() if mark == "\n" else self.rows.take(mark)
        if mark == ":" and self.due != "parent":
            return self.begin_rows()
        if self.due == "head":
            self.due = "parent"
            return mark == "of" and len(self.things) > 0
        return self.take_parent(mark)

    def take_name(self, mark):
        """Take the name of a thing, if it is one that no thing has."""
        if not is_name(mark) or mark in self.numbers:
            return False
        self.name = mark
        self.due = "count"
        return True

    def take_count(self, mark):
        """Take the number of cases."""
        if not is_numeral(mark) or not 2 <= number_in(mark) <= MOST_CASES:
            return False
        self.count = number_in(mark)
        self.parents = []
        self.due = "head"
        return True

    def take_parent(self, mark):
        """Take the name of one more parent."""
        if mark not in self.numbers or self.numbers[mark] in self.parents or len(self.parents) == MOST_PARENTS:
            return False
        self.parents.append(self.numbers[mark])
        self.due = "parents"
        return True

    def begin_rows(self):
        """Begin the rows of the thing."""
        self.rows = RowsReading(self.count, fill_count(self.parent_counts(self.parents)))
        self.due = "rows"
        return True

    def end_line(self):
        """End the line of a thing, if its rows are whole."""
        if not self.rows.is_whole():
            return False
        self.numbers[self.name] = len(self.things)
        self.things.append(self.last_thing())
        self.due = "name"
        return True

    def parent_counts(self, parents):
        """The numbers of cases of some parents."""
        return [self.things[parent][1] for parent in parents]

    def last_thing(self):
        """The thing of the line that is read, its parents and rows ascending."""
        parents = sorted(self.parents)
        told = self.rows.result()
        places = [parents.index(parent) for parent in self.parents]
        counts = self.parent_counts(self.parents)
        rows = [
            told[filling_number(counts, at_places(filling, places))]
            for filling in fillings_of(self.parent_counts(parents))
        ]
        return (self.name, self.count, tuple(parents), tuple(rows))

    def is_whole(self):
        """Whether the marks so far are the text of a net."""
        if self.due == "name":
            return len(self.things) > 0
        return self.due == "rows" and self.rows.is_whole()

    def next_mark(self):
        """A mark that can follow, if this is no text of a net yet."""
        if self.due == "name":
            return "a"
        if self.due == "count":
            return "2"
        if self.due == "parent":
            return self.things[0][0]
        return self.rows.next_mark() if self.due == "rows" else ":"

    def result(self):
        """The net that a whole text tells."""
        last = () if self.due == "name" else (self.last_thing(),)
        return Net(tuple(self.things) + last)
