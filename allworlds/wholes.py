"""Tables of whole numbers over things in any order, multiplied and summed as they grow.

A whole table is (order, entries): a tuple of things, and a list with a number
for each filling of them in this order, ascending. All tables of a question
stand over one bottom, so that only the tops are needed.
"""

from math import lcm

from allworlds.claims import holding_bits, things_of_claim
from allworlds.fillings import at_places, fill_count, places_by, steps_by
from allworlds.nets import counts_of, family_of
from allworlds.numbers import common_bottom, tops_over
from allworlds.sequences import greedy_sequence, lot_size


def entries_of(net, thing):
    """The entries of the table of a thing's family."""
    # The thing is the last of its family, so the rows follow one another.
    return [fraction for row in net.things[thing][3] for fraction in row]


def whole_tables(net):
    """The tables of all things in whole numbers, and the bottom of a product of an entry of each."""
    tables = []
    bottom = 1
    for thing in range(len(net.things)):
        tops, common = over_one_bottom(entries_of(net, thing))
        tables.append((family_of(net, thing), tops))
        bottom = bottom * common
    return (tables, bottom)


def short_bottom(fractions, most):
    """The least common bottom of fractions, or None if it has more bits than so many."""
    common = 1
    for bottom in sorted(set([below for _, below in fractions])):
        common = lcm(common, bottom)
        if common.bit_length() > most:
            return None
    return common


def over_one_bottom(fractions):
    """The tops of fractions over the least common bottom, and this one."""
    common = common_bottom(fractions)
    return (tops_over(fractions, common), common)


def whole_margins(net, claim, bar):
    """The table of a claim in whole numbers: what a world with it counts more than one's bar, and one without it."""
    things = things_of_claim(claim)
    counts = at_places(counts_of(net), things)
    bits = holding_bits(claim, things, counts)
    top, bottom = bar
    return (things, [bottom - top if bits >> number & 1 else -top for number in range(fill_count(counts))])


def aligned(counts, order, entries, other):
    """The order of two tables, with new things behind, and the entries of both for all its fillings."""
    new = tuple([thing for thing in other[0] if thing not in order])
    many = fill_count(at_places(counts, new))
    if many > 1:
        entries = [entry for entry in entries for _ in range(many)]
    return (order + new, entries, spread_over(counts, order + new, other))


def spread_over(counts, order, table):
    """The entries of a table for all fillings of things in an order, among them its own."""
    own = tuple([thing for thing in order if thing in table[0]])
    # From the last thing on, blocks of entries are repeated or put together.
    blocks = [[entry] for entry in in_order(counts, own, table)]
    for thing in reversed(order):
        if thing in own:
            blocks = merged_blocks(blocks, counts[thing])
        else:
            blocks = [block * counts[thing] for block in blocks]
    return blocks[0]


def merged_blocks(blocks, count):
    """Each so many blocks after one another put together."""
    merged = blocks[::count]
    for case in range(1, count):
        merged = [one + other for one, other in zip(merged, blocks[case::count])]
    return merged


def in_order(counts, order, table):
    """The entries of a table with its things in another order."""
    things, entries = table
    if things == order:
        return entries
    places = places_by(order, at_places(counts, order), steps_by(things, at_places(counts, things)))
    return [entries[place] for place in places]


def having(tables, thing):
    """The tables that have a thing."""
    return [table for table in tables if thing in table[0]]


def lacking(tables, thing):
    """The tables that have not a thing."""
    return [table for table in tables if thing not in table[0]]


def led_by(counts, thing, table):
    """A table with one of its things first in its order."""
    led = (thing,) + tuple([other for other in table[0] if other != thing])
    return (led, in_order(counts, led, table))


def product_behind(counts, thing, tables):
    """The product of some tables that have a thing, with this one first."""
    if not tables:
        return ((thing,), [1] * counts[thing])
    order, entries = led_by(counts, thing, tables[0])
    for table in tables[1:]:
        order, entries, beside = aligned(counts, order, entries, table)
        entries = [one * other for one, other in zip(entries, beside)]
    return (order, entries)


def by_case(entries, count):
    """The entries at each case of the first thing of an order."""
    many = len(entries) // count
    return [entries[start:start + many] for start in range(0, len(entries), many)]


def sums_by_case(entries, count):
    """The sums of the entries over all cases of the first thing of an order."""
    pieces = by_case(entries, count)
    total = pieces[0]
    for piece in pieces[1:]:
        total = [one + other for one, other in zip(total, piece)]
    return total


def summed_tables(counts, tables, thing):
    """Tables with the product of those that have a thing summed over its cases."""
    order, entries = product_behind(counts, thing, having(tables, thing))
    return lacking(tables, thing) + [(order[1:], sums_by_case(entries, counts[thing]))]


def summed_out_of(counts, tables, margins, thing):
    """Tables, and those of the margins, with a thing summed out."""
    if thing not in margins[0]:
        return (summed_tables(counts, tables, thing), margins)
    count = counts[thing]
    order, entries = product_behind(counts, thing, having(tables, thing))
    wide, spread, firsts = aligned(counts, order, entries, margins[:2])
    firsts = [entry * first for entry, first in zip(spread, firsts)]
    _, _, seconds = aligned(counts, order, entries, (margins[0], margins[2]))
    seconds = [entry * second for entry, second in zip(spread, seconds)]
    return (lacking(tables, thing), (wide[1:], sums_by_case(firsts, count), sums_by_case(seconds, count)))


def is_below_zero(pair):
    """Whether a margin in whole numbers is below 0."""
    return pair[0] < 0 or pair[0] == 0 and pair[1] < 0


def weighed_pair(pair, low, high):
    """The least margin in whole numbers times a number between two bounds."""
    factor = high if is_below_zero(pair) else low
    return (pair[0] * factor, pair[1] * factor)


def product_of_wholes(counts, tables):
    """The product of some tables, each new thing behind those before."""
    order, entries = (), [1]
    for table in tables:
        order, entries, beside = aligned(counts, order, entries, table)
        entries = [one * other for one, other in zip(entries, beside)]
    return (order, entries)


def sums_of_pieces(entries, many):
    """The sums of so many equally long pieces that follow one another."""
    return entries if len(entries) == many else [sum(piece) for piece in by_case(entries, many)]


def sums_by_filling(counts, tables, lot):
    """For each filling of a lot the sum, over all other things of some tables, of their products."""
    scopes = tuple([order for order, _ in tables])
    others = sorted(set([thing for scope in scopes for thing in scope if thing not in lot]))
    for thing in greedy_sequence(counts, scopes, others):
        tables = summed_tables(counts, tables, thing)
    entries = [1] * lot_size(counts, lot)
    for table in tables:
        entries = [one * other for one, other in zip(entries, spread_over(counts, lot, table))]
    return entries


def sums_by_thing(counts, order, entries):
    """For each thing of an order the sums of the entries at its cases."""
    found = []
    for thing in order:
        found.append(sums_of_pieces(entries, counts[thing]))
        entries = sums_by_case(entries, counts[thing])
    return found


def product_of_last(tables):
    """The product of tables without things."""
    product = 1
    for _, entries in tables:
        product = product * entries[0]
    return product


def least_out_of(counts, lows, highs, margins, thing):
    """Low and high bounds, and margins, with a told thing left out by least values."""
    count = counts[thing]
    order, low = product_behind(counts, thing, having(lows, thing))
    _, high = product_behind(counts, thing, having(highs, thing))
    rest, others = lacking(lows, thing), lacking(highs, thing)
    if thing in margins[0]:
        wide, low, pairs = aligned(counts, order, low, margins)
        _, high, _ = aligned(counts, order, high, margins)
        pairs = [weighed_pair(pair, one, other) for pair, one, other in zip(pairs, low, high)]
        return (rest, others, (wide[1:], least_by_case(pairs, count)))
    greatest = by_case(high, count)
    best = greatest[0]
    for piece in greatest[1:]:
        best = [max(one, other) for one, other in zip(best, piece)]
    return (rest + [(order[1:], least_by_case(low, count))], others + [(order[1:], best)], margins)


def least_by_case(entries, count):
    """The least of the entries over all cases of the first thing of an order."""
    pieces = by_case(entries, count)
    least = pieces[0]
    for piece in pieces[1:]:
        least = [min(one, other) for one, other in zip(least, piece)]
    return least


def turning_tables(tables, margins):
    """Whether each entry is above 0, and each margin below 0; where all are, the answer is turned."""
    order, pairs = margins
    bits = [(things, [entry > 0 for entry in entries]) for things, entries in tables]
    return bits + [(order, [is_below_zero(pair) for pair in pairs])]


def cheapest_out_of(counts, tables, thing):
    """Tables of costs with a thing left out by least sums."""
    taken = having(tables, thing)
    order, entries = led_by(counts, thing, taken[0])
    for table in taken[1:]:
        order, entries, beside = aligned(counts, order, entries, table)
        entries = [one + other for one, other in zip(entries, beside)]
    return lacking(tables, thing) + [(order[1:], least_by_case(entries, counts[thing]))]


def opened_out_of(counts, tables, thing, found, mask):
    """Tables of bits with a thing left out: at the case found, or for the bits of a mask at any one."""
    taken = having(tables, thing)
    order, entries = led_by(counts, thing, taken[0])
    for table in taken[1:]:
        order, entries, beside = aligned(counts, order, entries, table)
        entries = [one & other for one, other in zip(entries, beside)]
    pieces = by_case(entries, counts[thing])
    whole = pieces[0]
    for piece in pieces[1:]:
        whole = [one | other for one, other in zip(whole, piece)]
    return lacking(tables, thing) + [(order[1:], [one | other & mask for one, other in zip(pieces[found], whole)])]


def table_at(counts, table, fixed):
    """A table with the things of a dict fixed at their cases there."""
    order, entries = table
    kept = tuple([thing for thing in order if thing not in fixed])
    if kept == order:
        return table
    steps = steps_by(order, at_places(counts, order))
    first = sum([steps[thing] * fixed[thing] for thing in order if thing in fixed])
    places = places_by(kept, at_places(counts, kept), steps, first)
    return (kept, [entries[place] for place in places])
