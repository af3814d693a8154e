"""Texts of claims, read mark by mark."""

from allworlds.rowtexts import is_numeral, number_in


class Level:
    """What has been read since a parenthesis, or since the start."""

    def __init__(self):
        # The parts joined by "|" that are done, and those joined by "&" of the one that is not.
        self.either = []
        self.both = []
        # How many "!" stand before the next part.
        self.turns = 0

    def add_part(self, part):
        """Add a part behind the "!" that stand before it."""
        for _ in range(self.turns):
            part = ("not", part)
        self.turns = 0
        self.both.append(part)

    def end_both(self):
        """End what "&" joins."""
        self.either.append(joined_parts("and", self.both))
        self.both = []

    def claim(self):
        """The claim of all that has been read."""
        self.end_both()
        return joined_parts("or", self.either)


def joined_parts(word, parts):
    """A single part, or two or more joined by a word."""
    return parts[0] if len(parts) == 1 else (word,) + tuple(parts)


class ClaimReading:
    """The reading of the text of a claim about a net."""

    def __init__(self, net):
        self.net = net
        self.numbers = {row[0]: thing for thing, row in enumerate(net.things)}
        self.levels = [Level()]
        # What comes next: part, is, cases (or "never"), more (cases, or as behind a part), end (of a part).
        self.due = "part"
        self.thing = 0
        self.cases = []

    def take(self, mark):
        """Whether some claim begins with a mark behind those before; if so, it is taken."""
        if self.due == "part":
            return self.take_part(mark)
        if self.due == "is":
            self.due = "cases"
            return mark == "is"
        if self.due == "cases" and mark == "never":
            return self.end_part()
        if self.due != "end" and is_numeral(mark):
            return self.take_case(mark)
        return self.due != "cases" and self.take_sign(mark)

    def take_part(self, mark):
        """Take the first mark of a part, or a sign before it."""
        if mark == "!":
            self.levels[-1].turns += 1
            return True
        if mark == "(":
            self.levels.append(Level())
            return True
        if mark not in self.numbers:
            return False
        self.thing = self.numbers[mark]
        self.cases = []
        self.due = "is"
        return True

    def take_case(self, mark):
        """Take one more case."""
        case = number_in(mark)
        if case >= self.net.things[self.thing][1] or case in self.cases:
            return False
        self.cases.append(case)
        self.due = "more"
        return True

    def end_part(self):
        """End a part that tells cases of a thing."""
        self.levels[-1].add_part(("is", self.thing, tuple(sorted(self.cases))))
        self.due = "end"
        return True

    def take_sign(self, mark):
        """Take a sign behind a part."""
        if self.due == "more":
            self.end_part()
        if mark == ")" and len(self.levels) > 1:
            claim = self.levels.pop().claim()
            self.levels[-1].add_part(claim)
            return True
        if mark == "|":
            self.levels[-1].end_both()
        self.due = "part"
        return mark == "|" or mark == "&"

    def is_whole(self):
        """Whether the marks so far are the text of a claim."""
        return len(self.levels) == 1 and (self.due == "more" or self.due == "end")

    def next_mark(self):
        """A mark that can follow, if this is no text of a claim yet."""
        if self.due == "part":
            return self.net.things[0][0]
        if self.due == "is":
            return "is"
        return "never" if self.due == "cases" else ")"

    def result(self):
        """The claim that a whole text tells."""
        if self.due == "more":
            self.end_part()
        return self.levels[0].claim()
