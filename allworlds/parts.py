"""The parts of a question, and things left out of them.

A part is ("plain", things, lows, highs), with low and high bounds for each
filling of its things, or ("margin", things, margins). A margin is a pair of
fractions; margins are compared by the first ones, then by the second ones.
"""

from allworlds.claims import folded, holding_bits, things_of_claim
from allworlds.fillings import at_places, fill_count, places_by, steps_by
from allworlds.nets import counts_of
from allworlds.numbers import (
    ONE, fraction_of, greatest_of, is_less, least_of, product_of_all, taken, timed, total_of_all,
)
from allworlds.sums import at_cases
from allworlds.tables import table_of


def is_lower(one, other):
    """Whether the first of two margins is less."""
    return is_less(one[0], other[0]) or one[0] == other[0] and is_less(one[1], other[1])


def is_negative(margin):
    """Whether a margin is below 0."""
    return margin[0][0] < 0 or margin[0][0] == 0 and margin[1][0] < 0


def turned_margin(margin):
    """A margin with other signs."""
    return (fraction_of(-margin[0][0], margin[0][1]), fraction_of(-margin[1][0], margin[1][1]))


def weighed(margin, low, high):
    """The least margin times a fraction between two bounds."""
    factor = high if is_negative(margin) else low
    return (timed(margin[0], factor), timed(margin[1], factor))


def least_margin(margins):
    """The least of one or more margins."""
    best = margins[0]
    for margin in margins:
        if is_lower(margin, best):
            best = margin
    return best


def total_margin(margins):
    """The sum of margins."""
    return (total_of_all([margin[0] for margin in margins]), total_of_all([margin[1] for margin in margins]))


def first_parts(net, claim, bar, answer, fixed):
    """The parts of a question about a claim, with the things of a dict fixed at their cases there."""
    tables = [at_cases(table_of(net, thing), fixed) for thing in range(len(net.things))]
    plain = [("plain", table.things, table.entries, table.entries) for table in tables]
    return plain + [margin_part(net, claim, bar, answer, fixed)]


def margin_part(net, claim, bar, answer, fixed):
    """The part of a claim, for an answer to whether its share is at least a bar."""
    counts = [1 if thing in fixed else count for thing, count in enumerate(counts_of(net))]
    things = things_of_claim(claim)
    bits = holding_bits(claim_at(claim, fixed), things, at_places(counts, things))
    margins = [(taken((bit, 1), bar), ONE) for bit in range(2)]
    if not answer:
        margins = [turned_margin(margin) for margin in margins]
    entries = [margins[bits >> number & 1] for number in range(fill_count(at_places(counts, things)))]
    return ("margin", tuple([thing for thing in things if thing not in fixed]), tuple(entries))


def claim_at(claim, fixed):
    """A claim in which the case that a fixed thing has is its only one, with the number 0."""
    return folded(claim, lambda part, below: part_at(part, below, fixed))


def part_at(part, below, fixed):
    """A part in which fixed things have only one case, from the claims in it."""
    if part[0] != "is":
        return part[:1] + tuple(below)
    if part[1] not in fixed:
        return part
    return ("is", part[1], (0,) if fixed[part[1]] in part[2] else ())


def things_of_message(parts, thing):
    """The lot of all other things of the parts that have a thing."""
    return tuple(sorted(set([other for part in parts if thing in part[1] for other in part[1] if other != thing])))


def message_of(counts, parts, thing, is_told):
    """What is made of the parts that have a thing if it is left out."""
    things = things_of_message(parts, thing)
    order = things + (thing,)
    having = [spread_part(counts, part, order) for part in parts if thing in part[1]]
    plain = [part for part in having if part[0] == "plain"]
    many = fill_count(at_places(counts, order))
    lows = products_of([part[2] for part in plain], many)
    exact = all([part[2] == part[3] for part in plain])
    highs = lows if exact else products_of([part[3] for part in plain], many)
    count = counts[thing]
    if len(plain) < len(having):
        margins = [part[2] for part in having if part[0] == "margin"][0]
        margins = [weighed(margin, low, high) for margin, low, high in zip(margins, lows, highs)]
        return ("margin", things, folded_entries(margins, count, least_margin if is_told else total_margin))
    least = folded_entries(lows, count, least_of if is_told else total_of_all)
    if exact and not is_told:
        return ("plain", things, least, least)
    return ("plain", things, least, folded_entries(highs, count, greatest_of if is_told else total_of_all))


def spread_part(counts, part, order):
    """A part with its entries for all fillings of things in an order."""
    places = places_by(order, at_places(counts, order), steps_by(part[1], at_places(counts, part[1])))
    return (part[0], order) + tuple([at_places(entries, places) for entries in part[2:]])


def products_of(columns, many):
    """The products of entries at the same places."""
    return [product_of_all([column[number] for column in columns]) for number in range(many)]


def folded_entries(entries, count, fold):
    """What a function makes of so many entries after one another each time."""
    return tuple([fold(entries[start:start + count]) for start in range(0, len(entries), count)])


def left_out_of(counts, parts, thing, is_told):
    """The parts after a thing has been left out, with its message at the end."""
    return [part for part in parts if thing not in part[1]] + [message_of(counts, parts, thing, is_told)]


def last_margin(parts):
    """The margin that parts without things make together."""
    lows = [part[2][0] for part in parts if part[0] == "plain"]
    highs = [part[3][0] for part in parts if part[0] == "plain"]
    margins = [part[2][0] for part in parts if part[0] == "margin"]
    return weighed(margins[0], product_of_all(lows), product_of_all(highs))
