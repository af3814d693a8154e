"""Mixed sequences, and the messages along them that tell the first of a ranking.

A factor is a pair of a lot and a tuple with an entry for each of its
fillings: fractions, or placed parts and None.
"""

from allworlds.eliminating import tables_by
from allworlds.fillings import at_places, places_by, steps_by
from allworlds.kinds import has_each_once
from allworlds.nets import counts_of
from allworlds.numbers import is_less, product_of_all, total_of_all
from allworlds.sequences import greedy_sequence, scopes_in, scopes_left


def comes_before(one, other):
    """Whether one of two placed fillings, or placed parts, of the same things comes before the other one."""
    if one is None or other is None:
        return one is not None
    return is_less(other[0], one[0]) or one[0] == other[0] and one[1] < other[1]


def is_mixed_sequence(net, lot, value):
    """Whether any value is a tuple with each thing once, those outside a lot first."""
    if not has_each_once(value, tuple(range(len(net.things)))):
        return False
    return not any([thing in lot for thing in value[:len(value) - len(lot)]])


def mixed_sequence(net, lot):
    """Some mixed sequence of a lot."""
    counts = counts_of(net)
    scopes = scopes_in(net)
    outer = greedy_sequence(counts, scopes, [thing for thing in range(len(net.things)) if thing not in lot])
    return outer + greedy_sequence(counts, scopes_left(scopes, outer), lot)


def line_of(lot, sequence):
    """The things of a lot in reversed sequence."""
    return tuple([thing for thing in sequence[::-1] if thing in lot])


def first_factors(net, news):
    """The factors of all things at first."""
    return [(table.things, table.entries) for table in tables_by(net, news)]


def taken_factors(factors, thing):
    """The factors that a thing takes away."""
    return [factor for factor in factors if thing in factor[0]]


def other_factors(factors, thing):
    """The factors that a thing does not take away."""
    return [factor for factor in factors if thing not in factor[0]]


def message_things(taken, thing):
    """The lot of all other things of the factors that a thing takes."""
    return tuple(sorted(set([one for things, _ in taken for one in things if one != thing])))


def spread_factor(counts, factor, order):
    """The entries of a factor for all fillings of things in an order."""
    things, entries = factor
    steps = steps_by(things, at_places(counts, things))
    return at_places(entries, places_by(order, at_places(counts, order), steps))


def joined_columns(counts, taken, order, join):
    """For each filling of things in an order what a function makes of the list of the entries of factors."""
    columns = [spread_factor(counts, factor, order) for factor in taken]
    return [join([column[number] for column in columns]) for number in range(len(columns[0]))]


def placed_part(entry):
    """An entry as a placed part or None."""
    if entry is None or isinstance(entry[0], tuple):
        return entry
    return (entry, ()) if entry[0] > 0 else None


def joined_parts(entries):
    """The product of the weights of some entries with all their pairs, or None if one of them is 0 or None."""
    parts = [placed_part(entry) for entry in entries]
    if None in parts:
        return None
    pairs = [pair for _, part in parts for pair in part]
    return (product_of_all([weight for weight, _ in parts]), tuple(sorted(pairs)))


def with_pair(placed, pair):
    """A placed part with one more pair of a thing and a case."""
    if placed is None:
        return None
    return (placed[0], tuple(sorted(placed[1] + (pair,))))


def first_of(placed):
    """The one of some placed parts that comes first."""
    first = None
    for part in placed:
        if comes_before(part, first):
            first = part
    return first


def sums_over(counts, taken, things, thing):
    """The entries of a message, on some things, of a thing outside the lot."""
    products = joined_columns(counts, taken, things + (thing,), product_of_all)
    many = counts[thing]
    return tuple([total_of_all(products[start:start + many]) for start in range(0, len(products), many)])


def firsts_over(counts, taken, things, thing):
    """The entries of a message, on some things, of a thing in the lot."""
    joined = joined_columns(counts, taken, things + (thing,), joined_parts)
    many = counts[thing]
    placed = [with_pair(part, (thing, number % many)) for number, part in enumerate(joined)]
    return tuple([first_of(placed[start:start + many]) for start in range(0, len(placed), many)])


def best_messages(net, news, lot, sequence):
    """The messages of all things along a mixed sequence."""
    counts = counts_of(net)
    factors = first_factors(net, news)
    messages = []
    for thing in sequence:
        taken = taken_factors(factors, thing)
        things = message_things(taken, thing)
        over = firsts_over if thing in lot else sums_over
        messages.append((things, over(counts, taken, things, thing)))
        factors = other_factors(factors, thing) + [messages[-1]]
    return tuple(messages)
