"""What looks are made of: the weights of the fillings of a lot, and for each act the sums of weights times worths.

Only their quotients matter, so all are told times one number above 0. Where few
fillings matter, all are gone over at once; otherwise things are left out one
after another.
"""

from allworlds.eliminating import eliminated, tables_by, things_but
from allworlds.nets import counts_of, family_of, older_lot
from allworlds.numbers import tops_over
from allworlds.plain import known_total
from allworlds.sequences import greedy_sequence, lot_size
from allworlds.sums import product_of, widened
from allworlds.tables import counts_in
from allworlds.wholes import (
    entries_of, in_order, over_one_bottom, product_of_wholes, short_bottom, spread_over, sums_by_filling, sums_by_thing,
    sums_of_pieces,
)

# For no more fillings of the things that matter, all of them are gone over at once.
MOST_AT_ONCE = 512
# For looks at each thing alone this saves more.
MOST_FOR_EACH = 2048
# Over a longer bottom of a table fractions are quicker.
MOST_BITS_EACH = 2048


def things_of_acts(acts):
    """The lot of all things of the tables of acts."""
    return tuple(sorted(set([thing for act in acts for thing in act.things])))


def look_sums(net, news, acts, lot):
    """The total, the weights of the fillings of a lot, and for each act the sums of weights times worths.

    All are fractions, times one number above 0. Raises Refused if the total is 0.
    """
    tied = lot + tuple([thing for thing in things_of_acts(acts) if thing not in lot])
    # The rows of all other things have the sum 1, whatever the cases of these are.
    things = older_lot(net, tied + tuple([thing for thing, _ in news]))
    wholes = whole_look(net, news, acts, things)
    if wholes is None:
        weights, columns = sums_by_fractions(net, news, acts, lot, things)
        return (known_total(weights), weights, columns)
    counts = counts_of(net)
    if lot_size(counts, things) > MOST_AT_ONCE:
        sums = sums_one_by_one(counts, wholes, lot)
    else:
        sums = sums_at_once(counts, wholes, lot, tied)
    weights = as_fractions(sums[0], wholes[2])
    return (known_total(weights), weights, [as_fractions(column, 1) for column in sums[1:]])


def as_fractions(numbers, factor):
    """Whole numbers, each times another one, as fractions."""
    return [(number * factor, 1) for number in numbers]


def whole_look(net, news, acts, things):
    """The tables of some things with their news, those of acts, and the bottom of these; None for a long bottom.

    All tables are in whole numbers; those of the acts stand over one bottom.
    """
    told = {thing: weights for thing, weights in news}
    tables = []
    for thing in things:
        entries = entries_of(net, thing)
        bottom = short_bottom(entries, MOST_BITS_EACH)
        if bottom is None:
            return None
        tops = tops_over(entries, bottom)
        if thing in told:
            weights, _ = over_one_bottom(told[thing])
            tops = [top * weight for top, weight in zip(tops, weights * (len(tops) // len(weights)))]
        tables.append((family_of(net, thing), tops))
    bottom = short_bottom([entry for act in acts for entry in act.entries], MOST_BITS_EACH)
    if bottom is None:
        return None
    return (tables, [(act.things, tops_over(act.entries, bottom)) for act in acts], bottom)


def sums_at_once(counts, wholes, lot, tied):
    """The sums to a lot of the weights, and of these times the worths of each act, by one table of all things.

    The tied things are those of the lot, which come first, and those of the acts.
    """
    tables, worths, _ = wholes
    joint = product_of_wholes(counts, tables)
    order = tied + tuple([thing for thing in joint[0] if thing not in tied])
    # In this order the entries that are summed follow one another.
    entries = sums_of_pieces(in_order(counts, order, joint), lot_size(counts, tied))
    many = lot_size(counts, lot)
    columns = [entries] + [times_table(counts, tied, entries, worth) for worth in worths]
    return [sums_of_pieces(column, many) for column in columns]


def times_table(counts, order, entries, table):
    """The entries for all fillings of things in an order, each times that of a table of some of them."""
    return [entry * factor for entry, factor in zip(entries, spread_over(counts, order, table))]


def sums_one_by_one(counts, wholes, lot):
    """The sums to a lot of the weights, and of these times the worths of each act, by leaving out things."""
    tables, worths, _ = wholes
    beside = [tables] + [tables + [worth] for worth in worths]
    return [sums_by_filling(counts, own, lot) for own in beside]


def sums_by_fractions(net, news, acts, lot, things):
    """The weights of a lot, and for each act the sums of weights times worths, by tables of fractions of things."""
    tables = [table for thing, table in enumerate(tables_by(net, news)) if thing in things]
    return (fraction_sums(net, tables, lot), [fraction_sums(net, tables + [act], lot) for act in acts])


def fraction_sums(net, tables, lot):
    """For each filling of a lot the sum, over all others, of the products of tables."""
    scopes = tuple([table.things for table in tables])
    left = eliminated(tables, greedy_sequence(counts_of(net), scopes, things_but(net, lot)))
    return widened(product_of(left), lot, counts_in(net, lot)).entries


def sums_of_each(net, news, acts):
    """For each thing alone the sums of weights times worths of each act, as `look_sums` tells them."""
    things = tuple(range(len(net.things)))
    counts = counts_of(net)
    wholes = None if lot_size(counts, things) > MOST_FOR_EACH else whole_look(net, news, acts, things)
    if wholes is None:
        return [look_sums(net, news, acts, (thing,))[2] for thing in things]
    tables, worths, _ = wholes
    order, joint = product_of_wholes(counts, tables)
    known_total(as_fractions(joint, 1))
    columns = [sums_by_thing(counts, order, times_table(counts, order, joint, worth)) for worth in worths]
    return [[as_fractions(column[thing], 1) for column in columns] for thing in things]
