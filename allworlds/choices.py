"""Choices between acts, and what looks at things before them are worth."""

from allworlds.errors import InvalidTable, Refused
from allworlds.fillings import fillings_of
from allworlds.kinds import is_lot_below
from allworlds.looks import look_sums, sums_of_each, things_of_acts
from allworlds.nets import counts_of
from allworlds.numbers import divided, greatest_of, is_less, taken, total_of_all
from allworlds.sequences import lot_size
from allworlds.tables import counts_in, is_table
from allworlds.worlds import MOST


def check_acts(net, value):
    """Raise InvalidTable for any value that is no tuple of one or more acts."""
    if not isinstance(value, tuple) or not value:
        raise InvalidTable(-1)
    for at, item in enumerate(value):
        if not is_act(net, item):
            raise InvalidTable(at)


def is_act(net, value):
    """Whether any value is an act: a table of things of the net."""
    if not is_table(value) or not is_lot_below(value.things, len(net.things)):
        return False
    return value.counts == counts_in(net, value.things)


def mean_worth(net, news, act):
    """The mean worth of an act by news."""
    return mean_worths(net, news, (act,))[0]


def mean_worths(net, news, acts):
    """The mean worths of all acts by news."""
    total, _, sums = look_sums(net, news, acts, ())
    return tuple([divided(column[0], total) for column in sums])


def best_act(net, news, acts):
    """The greatest mean worth, and the number of the first act that has it."""
    worths = mean_worths(net, news, acts)
    best = greatest_of(worths)
    return (best, worths.index(best))


def refuse_wide(net, lot):
    """Raise Refused for a lot with too many fillings."""
    if lot_size(counts_of(net), lot) > MOST:
        raise Refused("size")


def narrow_sums(net, news, acts, lot):
    """What `look_sums` tells of a lot; raises Refused for one with too many fillings."""
    refuse_wide(net, lot)
    return look_sums(net, news, acts, lot)


def sums_by_row(columns):
    """For each filling the sums of all acts."""
    return [[column[number] for column in columns] for number in range(len(columns[0]))]


def look_rows(net, news, acts, lot):
    """For each filling of a lot its share, and for each act the sum of shares times worths."""
    total, weights, columns = narrow_sums(net, news, acts, lot)
    return tuple([
        (divided(weight, total), tuple([divided(entry, total) for entry in sums]))
        for weight, sums in zip(weights, sums_by_row(columns))
    ])


def acts_after(net, news, acts, lot):
    """For each filling of a lot the number of the first best act, or None for the share 0."""
    _, weights, columns = narrow_sums(net, news, acts, lot)
    return tuple([
        None if weight[0] == 0 else sums.index(greatest_of(sums)) for weight, sums in zip(weights, sums_by_row(columns))
    ])


def worth_after(columns):
    """The sum of the greatest sums of acts over all fillings."""
    return total_of_all([greatest_of(sums) for sums in sums_by_row(columns)])


def worths_before(columns):
    """For each act the sum over all fillings."""
    return [total_of_all(column) for column in columns]


def look_worth(net, news, acts, lot):
    """The mean worth of the best acts after a look at a lot."""
    total, _, columns = narrow_sums(net, news, acts, lot)
    return divided(worth_after(columns), total)


def look_gain(net, news, acts, lot):
    """What a look at a lot is worth more than the best act without one."""
    total, _, columns = narrow_sums(net, news, acts, lot)
    return divided(taken(worth_after(columns), greatest_of(worths_before(columns))), total)


def full_worth(net, news, acts):
    """The worth of a look at all things of the acts' tables."""
    return look_worth(net, news, acts, things_of_acts(acts))


def turning_numbers(columns):
    """The indexes of the fillings in which some act has a greater sum than the one that is best without a look."""
    worths = worths_before(columns)
    best = columns[worths.index(greatest_of(worths))]
    rows = sums_by_row(columns)
    return [number for number, sums in enumerate(rows) if is_less(best[number], greatest_of(sums))]


def turning_fillings(net, news, acts, lot):
    """The fillings of a lot in which some act has a greater sum than the one that is best without a look."""
    _, _, columns = narrow_sums(net, news, acts, lot)
    fillings = fillings_of(counts_in(net, lot))
    return tuple([fillings[number] for number in turning_numbers(columns)])


def idle_things(net, news, acts):
    """The lot of the things at which a look alone gains nothing."""
    # A look gains something exactly if it can turn the act.
    columns = sums_of_each(net, news, acts)
    return tuple([thing for thing, own in enumerate(columns) if not turning_numbers(own)])
