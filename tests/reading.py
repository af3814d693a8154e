"""A plain reader of right texts, written from points 12 to 14, to read again what is shown."""

from fractions import Fraction

from allworlds.lexer import marks_of
from tests.drawn import pair_of


class Marks:
    """The marks of a text, taken one after another."""

    def __init__(self, text):
        self.left = [mark for _, _, mark in marks_of(text)]

    def first(self):
        return self.left[0] if self.left else ""

    def take(self, *due):
        mark = self.left.pop(0)
        assert not due or mark in due, (mark, due)
        return mark

    def number(self):
        mark = self.take()
        assert mark.isdigit() and (mark == "0" or mark[0] != "0"), mark
        return int(mark)

    def fraction(self):
        top = self.number()
        if self.first() != "/":
            return pair_of(Fraction(top))
        self.take("/")
        return pair_of(Fraction(top, self.number()))


def read_net_again(text):
    """The things of a net's text."""
    marks = Marks(text)
    things, names = [], []
    while marks.left:
        name = marks.take()
        count = marks.number()
        parents = []
        if marks.first() == "of":
            marks.take("of")
            while marks.first() != ":":
                parents.append(names.index(marks.take()))
        assert parents == sorted(set(parents))
        marks.take(":")
        rows = [tuple(marks.fraction() for _ in range(count))]
        while marks.first() == ",":
            marks.take(",")
            rows.append(tuple(marks.fraction() for _ in range(count)))
        things.append((name, count, tuple(parents), tuple(rows)))
        names.append(name)
        if marks.left:
            marks.take("\n")
            assert marks.left
    return tuple(things)


def read_news_again(net, text):
    """The news of a text."""
    marks = Marks(text)
    names = [thing[0] for thing in net.things]
    news = []
    while marks.left:
        thing = names.index(marks.take())
        count = net.things[thing][1]
        if marks.take(":", "is") == ":":
            news.append((thing, tuple(marks.fraction() for _ in range(count))))
        else:
            case = marks.number()
            assert case < count
            news.append((thing, tuple((1, 1) if at == case else (0, 1) for at in range(count))))
        if marks.left:
            marks.take(";")
            assert marks.left
    return tuple(sorted(news))


def read_claim_again(net, text):
    """The claim of a text."""
    marks = Marks(text)
    names = [thing[0] for thing in net.things]

    def part():
        if marks.first() == "!":
            marks.take("!")
            return ("not", part())
        if marks.first() == "(":
            marks.take("(")
            found = joined("|")
            marks.take(")")
            return found
        thing = names.index(marks.take())
        marks.take("is")
        if marks.first() == "never":
            marks.take("never")
            return ("is", thing, ())
        cases = [marks.number()]
        while marks.first().isdigit():
            cases.append(marks.number())
        assert len(set(cases)) == len(cases) and max(cases) < net.things[thing][1]
        return ("is", thing, tuple(sorted(cases)))

    def joined(sign):
        found = [part() if sign == "&" else joined("&")]
        while marks.first() == sign:
            marks.take(sign)
            found.append(part() if sign == "&" else joined("&"))
        return found[0] if len(found) == 1 else ({"&": "and", "|": "or"}[sign],) + tuple(found)

    claim = joined("|")
    assert not marks.left
    return claim
