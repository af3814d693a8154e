"""Things and news left out of nets, so that the shares of what is left stay."""

from allworlds.errors import Refused
from allworlds.eliminating import tables_by
from allworlds.nets import Net, children_of, counts_of, family_of, parents_of
from allworlds.numbers import ONE, ZERO, scaled_to_one
from allworlds.sequences import clusters_by, lot_size, scopes_in
from allworlds.sums import product_of, summed_out, total_of
from allworlds.tables import table_of
from allworlds.worlds import MOST


def grown_parents(net, thing):
    """For each child of a thing the lot of its parents once the thing is left out."""
    grown = parents_of(net, thing)
    found = {}
    for child in children_of(net, thing):
        grown = grown + family_of(net, child)
        found[child] = tuple(sorted(set([one for one in grown if one not in (thing, child)])))
    return found


def some_row(weights):
    """The shares of weights, or some row if all of them are 0."""
    if all([weight[0] == 0 for weight in weights]):
        return (ONE,) + (ZERO,) * (len(weights) - 1)
    return scaled_to_one(weights)


def rows_in(table):
    """The rows for the last thing of a table by the fillings of the others."""
    count = table.counts[-1]
    entries = table.entries
    return tuple([some_row(entries[start:start + count]) for start in range(0, len(entries), count)])


def without_thing(net, thing):
    """A net of all other things in which each world has the sum of the shares of those with the same cases."""
    if len(net.things) == 1:
        raise Refused("empty")
    grown = grown_parents(net, thing)
    counts = counts_of(net)
    if any([lot_size(counts, (thing, child) + parents) > MOST for child, parents in grown.items()]):
        raise Refused("size")
    rows = {}
    made = table_of(net, thing)
    for child in grown:
        made = product_of((made, table_of(net, child)))
        # All others there come before the child, so it is the last thing of the sum.
        rows[child] = rows_in(summed_out(made, (thing,)))
    things = []
    for number, (name, count, parents, old) in enumerate(net.things):
        if number != thing:
            lot = grown.get(number, parents)
            new = tuple([parent - 1 if parent > thing else parent for parent in lot])
            things.append((name, count, new, rows.get(number, old)))
    return Net(tuple(things))


def net_of_lot(net, lot):
    """Some net of the things of a lot in which each world has the share of the filling."""
    if not lot:
        raise Refused("empty")
    left = net
    for thing in reversed(range(len(net.things))):
        if thing not in lot:
            left = without_thing(left, thing)
    return left


def told_net(net, news):
    """A net in which, without news, each world has the share that it has by the news."""
    backward = tuple(reversed(range(len(net.things))))
    counts = counts_of(net)
    clusters = clusters_by(scopes_in(net), backward)
    if any([lot_size(counts, cluster) > MOST for cluster in clusters]):
        raise Refused("size")
    tables = list(tables_by(net, news))
    things = []
    for thing, cluster in zip(backward, clusters):
        made = product_of([table for table in tables if thing in table.things])
        name, count, _, _ = net.things[thing]
        things.append((name, count, cluster[:-1], rows_in(made)))
        tables = [table for table in tables if thing not in table.things] + [summed_out(made, (thing,))]
    if total_of(product_of(tables))[0] == 0:
        raise Refused("barred")
    return Net(tuple(things[::-1]))


def question_net(net, news, lot):
    """Some net of the things of a lot in which, without news, each world has its share by the news."""
    return net_of_lot(told_net(net, news), lot)
