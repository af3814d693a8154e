"""Texts of nets, news and claims read, and what is begun completed."""

from allworlds.claimtexts import ClaimReading
from allworlds.errors import InvalidText
from allworlds.lexer import marks_of
from allworlds.nettexts import NetReading
from allworlds.newstexts import NewsReading


def read_begun(reading, text):
    """Give a reading the marks of any value, or raise InvalidText at the first that it cannot take."""
    if not isinstance(text, str):
        raise InvalidText(-1, -1)
    for line, at, mark in marks_of(text):
        if not reading.take(mark):
            raise InvalidText(line, at)


def read_whole(reading, text):
    """What any value tells by a reading, or raise InvalidText."""
    read_begun(reading, text)
    if not reading.is_whole():
        lines = text.split("\n")
        raise InvalidText(len(lines) - 1, len(lines[-1]))
    return reading.result()


def completed(reading, text):
    """A text that begins with any value and is whole by a reading, or raise InvalidText."""
    read_begun(reading, text)
    marks = [text]
    while not reading.is_whole():
        mark = reading.next_mark()
        reading.take(mark)
        marks.append(mark)
    return " ".join(marks)


def read_net(text):
    """The net that a text tells; text may be any value."""
    return read_whole(NetReading(), text)


def read_news(net, text):
    """The news of a net that a text tells; text may be any value."""
    return read_whole(NewsReading(net), text)


def read_claim(net, text):
    """The claim about a net that a text tells; text may be any value."""
    return read_whole(ClaimReading(net), text)


def completed_net(text):
    """Some text of a net that begins with a text, which may be any value."""
    return completed(NetReading(), text)


def completed_news(net, text):
    """Some text of news that begins with a text, which may be any value."""
    return completed(NewsReading(net), text)


def completed_claim(net, text):
    """Some text of a claim that begins with a text, which may be any value."""
    return completed(ClaimReading(net), text)
