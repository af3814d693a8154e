"""Choices between acts, and what looks at things before them are worth."""

from allworlds.eliminating import eliminated, tables_by, things_but
from allworlds.errors import InvalidTable, Refused
from allworlds.fillings import fillings_of
from allworlds.kinds import is_lot_below
from allworlds.nets import counts_of
from allworlds.numbers import divided, greatest_of, is_less, taken, total_of_all
from allworlds.sequences import greedy_sequence, lot_size
from allworlds.sums import product_of, widened
from allworlds.tables import counts_in, is_table
from allworlds.worlds import MOST


def check_acts(net, value):
    """Raise InvalidTable for any value that is no tuple of one or more acts."""
    if not isinstance(value, tuple) or not value:
        raise InvalidTable(-1)
    for at, item in enumerate(value):
        if not is_act(net, item):
            raise InvalidTable(at)


def is_act(net, value):
    """Whether any value is an act: a table of things of the net."""
    if not is_table(value) or not is_lot_below(value.things, len(net.things)):
        return False
    return value.counts == counts_in(net, value.things)


def sums_to_lot(net, tables, lot):
    """For each filling of a lot the sum, over all others, of the products of tables."""
    scopes = tuple([table.things for table in tables])
    left = eliminated(tables, greedy_sequence(counts_of(net), scopes, things_but(net, lot)))
    return widened(product_of(left), lot, counts_in(net, lot)).entries


def weights_for(net, news, acts, lot):
    """The total, the weights of the fillings of a lot, and for each act the sums of weights times worths."""
    tables = list(tables_by(net, news))
    weights = sums_to_lot(net, tables, lot)
    total = total_of_all(weights)
    if total[0] == 0:
        raise Refused("barred")
    return (total, weights, [sums_to_lot(net, tables + [act], lot) for act in acts])


def mean_worth(net, news, act):
    """The mean worth of an act by news."""
    return mean_worths(net, news, (act,))[0]


def mean_worths(net, news, acts):
    """The mean worths of all acts by news."""
    total, _, sums = weights_for(net, news, acts, ())
    return tuple([divided(column[0], total) for column in sums])


def best_act(net, news, acts):
    """The greatest mean worth, and the number of the first act that has it."""
    worths = mean_worths(net, news, acts)
    best = greatest_of(worths)
    return (best, worths.index(best))


def refuse_wide(net, lot):
    """Raise Refused for a lot with too many fillings."""
    if lot_size(counts_of(net), lot) > MOST:
        raise Refused("size")


def look_rows(net, news, acts, lot):
    """For each filling of a lot its share, and for each act the sum of shares times worths."""
    refuse_wide(net, lot)
    total, weights, sums = weights_for(net, news, acts, lot)
    return tuple([
        (divided(weight, total), tuple([divided(column[number], total) for column in sums]))
        for number, weight in enumerate(weights)
    ])


def acts_after(net, news, acts, lot):
    """For each filling of a lot the number of the first best act, or None for the share 0."""
    rows = look_rows(net, news, acts, lot)
    return tuple([None if share[0] == 0 else sums.index(greatest_of(sums)) for share, sums in rows])


def worth_after(rows):
    """The mean worth of the best acts after a look with such rows."""
    return total_of_all([greatest_of(sums) for _, sums in rows])


def worths_before(rows):
    """The mean worths of all acts by the rows of a look."""
    return [total_of_all([sums[act] for _, sums in rows]) for act in range(len(rows[0][1]))]


def look_worth(net, news, acts, lot):
    """The mean worth of the best acts after a look at a lot."""
    return worth_after(look_rows(net, news, acts, lot))


def look_gain(net, news, acts, lot):
    """What a look at a lot is worth more than the best act without one."""
    rows = look_rows(net, news, acts, lot)
    return taken(worth_after(rows), greatest_of(worths_before(rows)))


def full_worth(net, news, acts):
    """The worth of a look at all things of the acts' tables."""
    return look_worth(net, news, acts, tuple(sorted(set([thing for act in acts for thing in act.things]))))


def turning_fillings(net, news, acts, lot):
    """The fillings of a lot in which some act has a greater sum than the one that is best without a look."""
    rows = look_rows(net, news, acts, lot)
    worths = worths_before(rows)
    best = worths.index(greatest_of(worths))
    turning = [is_less(sums[best], greatest_of(sums)) for _, sums in rows]
    fillings = fillings_of(counts_in(net, lot))
    return tuple([filling for filling, turns in zip(fillings, turning) if turns])


def idle_things(net, news, acts):
    """The lot of the things at which a look alone gains nothing."""
    # A look gains something exactly if it can turn the act.
    return tuple([thing for thing in range(len(net.things)) if not turning_fillings(net, news, acts, (thing,))])
