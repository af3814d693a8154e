"""Nets, news and claims shown as texts."""

from allworlds.claims import folded
from allworlds.nets import names_of
from allworlds.numbers import ONE, ZERO

# Python shows numbers of some thousand digits only in pieces.
PIECE = 64
PIECE_BOUND = 10 ** 64


def show_number(number):
    """The digits of an integer, with a sign ahead if it is below 0."""
    if number < 0:
        return "-" + show_number(-number)
    pieces = []
    while number >= PIECE_BOUND:
        number, rest = divmod(number, PIECE_BOUND)
        pieces.append(str(rest).zfill(PIECE))
    pieces.append(str(number))
    return "".join(pieces[::-1])


def show_fraction(fraction):
    """The text of a fraction."""
    top, bottom = fraction
    if bottom == 1:
        return show_number(top)
    return f"{show_number(top)}/{show_number(bottom)}"


def show_fractions(fractions):
    """The texts of fractions with blanks between."""
    return " ".join([show_fraction(fraction) for fraction in fractions])


def show_net(net):
    """The text of a net, a line for each thing."""
    return "\n".join([show_thing(net, thing) for thing in net.things])


def show_thing(net, thing):
    """The line of a thing."""
    name, count, parents, rows = thing
    head = f"{name} {count}"
    if parents:
        names = " ".join([net.things[parent][0] for parent in parents])
        head = f"{head} of {names}"
    tail = ", ".join([show_fractions(row) for row in rows])
    return f"{head}: {tail}"


def show_news(net, news):
    """The text of news."""
    return "; ".join([show_item(net, item) for item in news])


def show_item(net, item):
    """The text of an item of news, as a finding if it is one."""
    thing, weights = item
    name = net.things[thing][0]
    case = found_case(weights)
    if case is None:
        return f"{name}: {show_fractions(weights)}"
    return f"{name} is {case}"


def found_case(weights):
    """The case with weight 1, if all others have weight 0; otherwise None."""
    if weights.count(ONE) != 1 or weights.count(ZERO) != len(weights) - 1:
        return None
    return weights.index(ONE)


def show_claim(net, claim):
    """The text of a claim."""
    names = names_of(net)
    text, _ = folded(claim, lambda part, below: shown_part(names, part, below))
    return text


def shown_part(names, part, below):
    """The text and the word of a part, from those of the claims in it."""
    word = part[0]
    if word == "is":
        cases = " ".join([str(case) for case in part[2]]) if part[2] else "never"
        return (f"{names[part[1]]} is {cases}", word)
    if word == "not":
        return ("!" + inner_text(below[0], ("and", "or")), word)
    if word == "and":
        return (" & ".join([inner_text(pair, ("and", "or")) for pair in below]), word)
    return (" | ".join([inner_text(pair, ("or",)) for pair in below]), word)


def inner_text(pair, words):
    """The text of a part, in parentheses if its word is one of some."""
    text, word = pair
    return f"({text})" if word in words else text
