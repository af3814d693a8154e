"""Orders: sequences of all things in which parents come first."""

from allworlds.errors import Refused
from allworlds.fillings import at_places, fillings_of
from allworlds.kinds import has_each_once
from allworlds.nets import Net, parents_of, row_for

MOST_LOTS = 2000


def is_order(net, value):
    """Whether any value is an order of the net."""
    if not has_each_once(value, tuple(range(len(net.things)))):
        return False
    place = {thing: number for number, thing in enumerate(value)}
    return all([place[parent] < place[thing] for thing in value for parent in parents_of(net, thing)])


def reordered(net, order):
    """The net whose things stand in an order; order may be any value."""
    if not is_order(net, order):
        raise Refused("order")
    place = {thing: number for number, thing in enumerate(order)}
    return Net(tuple([moved_thing(net, thing, place) for thing in order]))


def moved_thing(net, thing, place):
    """A thing with its parents, and its rows, by their new places."""
    name, count, parents, _ = net.things[thing]
    moved = sorted(parents, key=lambda parent: place[parent])
    # For each new place among the parents, the old one, and the other way round.
    back = [moved.index(parent) for parent in parents]
    counts = [net.things[parent][1] for parent in moved]
    rows = [row_for(net, thing, at_places(filling, back)) for filling in fillings_of(counts)]
    return (name, count, tuple([place[parent] for parent in moved]), tuple(rows))


def order_count(net):
    """How many orders the net has."""
    needed = [sum([1 << parent for parent in thing[2]]) for thing in net.things]
    counted = {0: 1}
    for _ in needed:
        counted = one_longer(needed, counted)
        if len(counted) > MOST_LOTS:
            raise Refused("size")
    return sum(list(counted.values()))


def one_longer(needed, counted):
    """The lots with one more thing whose parents they have, each with its number of orders."""
    longer = {}
    for lot, many in counted.items():
        for thing, parents in enumerate(needed):
            if lot >> thing & 1 == 0 and parents & lot == parents:
                grown = lot | 1 << thing
                longer[grown] = longer.get(grown, 0) + many
    return longer
