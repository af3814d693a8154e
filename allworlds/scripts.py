"""Commands for a net, and scripts: texts with a command in each line."""

from allworlds.claims import claim_fault
from allworlds.claimtexts import ClaimReading
from allworlds.errors import InvalidText
from allworlds.fillings import fill_count
from allworlds.kinds import is_below, is_integer
from allworlds.lexer import marks_of
from allworlds.nets import names_of, parent_counts
from allworlds.newstexts import NewsReading
from allworlds.nettexts import RowsReading
from allworlds.numbers import ONE, fraction_of, is_less
from allworlds.printer import show_claim, show_fraction, show_fractions, show_news, show_number
from allworlds.rows import are_rows, are_weights, is_bar
from allworlds.rowtexts import is_numeral, number_in

MOST_DIGITS = 18
# How many items a command with each word has.
ITEMS = {
    "put": 3, "take": 2, "rows": 3, "back": 1, "total": 1, "shares": 2, "share": 2, "ask": 3, "why": 3, "turn": 3,
    "best": 2,
}
ABOUT_ANSWERS = ("ask", "why", "turn")


def is_command(net, value):
    """Whether any value is a command for a net."""
    if not isinstance(value, tuple) or not value or not isinstance(value[0], str):
        return False
    word = value[0]
    if len(value) != ITEMS.get(word, 0):
        return False
    if word == "back" or word == "total":
        return True
    if word == "best":
        return is_integer(value[1]) and value[1] > 0
    if word == "share":
        return claim_fault(net, value[1]) is None
    if word in ABOUT_ANSWERS:
        return is_bar(value[1]) and claim_fault(net, value[2]) is None
    if not is_below(value[1], len(net.things)):
        return False
    count = net.things[value[1]][1]
    if word == "put":
        return are_weights(value[2], count)
    return word != "rows" or are_rows(value[2], row_count(net, value[1]), count)


def row_count(net, thing):
    """How many rows a thing has."""
    return fill_count(parent_counts(net, thing))


def read_script(net, text):
    """The commands of a text, which may be any value."""
    if not isinstance(text, str):
        raise InvalidText(-1, -1)
    commands = []
    for number, line in enumerate(text.split("\n")):
        bare = line.strip(" ")
        if bare != "":
            command = command_in(net, bare)
            if command is None:
                raise InvalidText(number, 0)
            commands.append(command)
    return tuple(commands)


def command_in(net, line):
    """The command that a line without blanks around it tells, or None."""
    word, _, rest = line.partition(" ")
    if word == "back" or word == "total":
        return (word,) if rest == "" else None
    if word == "take" or word == "shares":
        return whole_command((word, thing_in(net, rest)))
    if word == "put":
        news = told_by(NewsReading(net), rest)
        return None if news is None or len(news) != 1 else (word,) + news[0]
    if word == "rows":
        return rows_command(net, rest)
    if word == "share":
        return whole_command((word, told_by(ClaimReading(net), rest)))
    if word in ABOUT_ANSWERS:
        head, _, tail = rest.partition(":")
        return whole_command((word, bar_in(head), told_by(ClaimReading(net), tail)))
    return whole_command((word, many_in(rest))) if word == "best" else None


def whole_command(parts):
    """A command of some parts, or None if one of these is."""
    return None if None in parts else parts


def told_by(reading, text):
    """What a text without newlines tells by a reading, or None."""
    for _, _, mark in marks_of(text):
        if not reading.take(mark):
            return None
    return reading.result() if reading.is_whole() else None


def bare_marks(text):
    """The marks of a text without their places."""
    return [mark for _, _, mark in marks_of(text)]


def thing_in(net, text):
    """The number of the thing whose name is all of a text, or None."""
    marks = bare_marks(text)
    names = names_of(net)
    return names.index(marks[0]) if len(marks) == 1 and marks[0] in names else None


def rows_command(net, text):
    """The command that a name, ":" and rows tell, or None."""
    head, _, tail = text.partition(":")
    thing = thing_in(net, head)
    if thing is None:
        return None
    return whole_command(("rows", thing, told_by(RowsReading(net.things[thing][1], row_count(net, thing)), tail)))


def is_short(mark):
    """Whether a mark is a numeral with no more digits than bars may have."""
    return is_numeral(mark) and len(mark) <= MOST_DIGITS


def bar_in(text):
    """The bar that is all of a text, or None."""
    marks = bare_marks(text)
    if len(marks) == 1:
        marks = marks + ["/", "1"]
    if len(marks) != 3 or marks[1] != "/" or not is_short(marks[0]) or not is_short(marks[2]) or marks[2] == "0":
        return None
    bar = fraction_of(number_in(marks[0]), number_in(marks[2]))
    return None if is_less(ONE, bar) else bar


def many_in(text):
    """The number from 1 on that is all of a text, or None."""
    marks = bare_marks(text)
    return number_in(marks[0]) if len(marks) == 1 and is_short(marks[0]) and marks[0] != "0" else None


def show_command(net, command):
    """The line of a command."""
    word = command[0]
    if len(command) == 1:
        return word
    if word == "best":
        return f"best {show_number(command[1])}"
    if word == "share":
        return f"share {show_claim(net, command[1])}"
    if word in ABOUT_ANSWERS:
        return f"{word} {show_fraction(command[1])}: {show_claim(net, command[2])}"
    if word == "put":
        return f"put {show_news(net, (command[1:],))}"
    name = names_of(net)[command[1]]
    if word != "rows":
        return f"{word} {name}"
    rows = ", ".join([show_fractions(row) for row in command[2]])
    return f"rows {name}: {rows}"


def show_script(net, commands):
    """The text of some commands, a line for each."""
    return "\n".join([show_command(net, command) for command in commands])
