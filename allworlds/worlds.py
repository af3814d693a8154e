"""Worlds: a case for each thing of a net."""

from allworlds.errors import Refused
from allworlds.fillings import at_places, fill_count, fillings_of
from allworlds.kinds import is_below
from allworlds.nets import chance_at, counts_of, parents_of, row_for, weights_in
from allworlds.numbers import ONE, product_of_all, timed

MOST = 20000


def world_count(net):
    """How many worlds the net has."""
    return fill_count(counts_of(net))


def refuse_many(net):
    """Raise Refused for a net with too many worlds to list."""
    if world_count(net) > MOST:
        raise Refused("size")


def worlds_of(net):
    """All worlds, ascending."""
    refuse_many(net)
    return fillings_of(counts_of(net))


def is_world(net, value):
    """Whether any value is a world of the net."""
    if not isinstance(value, tuple) or len(value) != len(net.things):
        return False
    return all([is_below(case, count) for case, count in zip(value, counts_of(net))])


def world_share(net, world):
    """The share of a world."""
    return product_of_all([chance_at(net, thing, world) for thing in range(len(world))])


def news_weight(net, news, world):
    """The weight of a world by news."""
    told = product_of_all([weights[world[thing]] for thing, weights in news])
    return timed(world_share(net, world), told)


def weighted_worlds(net, news):
    """The pairs of a world and its weight, for all weights above 0."""
    refuse_many(net)
    pairs = [((), ONE)]
    for thing in range(len(net.things)):
        weights = weights_in(net, news, thing)
        pairs = [pair for begun in pairs for pair in one_further(net, weights, begun)]
    return tuple(pairs)


def one_further(net, weights, pair):
    """A begun world and its weight, with each case of the next thing that leaves it above 0."""
    begun, weight = pair
    thing = len(begun)
    row = row_for(net, thing, at_places(begun, parents_of(net, thing)))
    factors = [timed(chance, told) for chance, told in zip(row, weights)]
    return [
        (begun + (case,), timed(weight, factor))
        for case, factor in enumerate(factors) if factor[0] > 0
    ]
