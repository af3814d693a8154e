"""Trees made of ties, of lots, and of other trees."""

from allworlds.errors import Refused
from allworlds.sequences import is_sequence
from allworlds.ties import bare_loop, filled_ties, made_lots, married_ties, smooth_sequence, thin_ties, ties_within
from allworlds.trees import cluster_way, has_all, runs_through, way_up


def greatest_lots(lots):
    """Those of some lots that are part of no other one, each once."""
    kept = []
    for lot in sorted(sorted(set(lots)), key=lambda one: -len(one)):
        if not any([has_all(other, lot) for other in kept]):
            kept.append(lot)
    return tuple(sorted(kept))


def shape_of(lots):
    """A shape of some lots in which each one shares as much as it can with the one above it."""
    # With as much in the cuts as there can be, it runs if any shape of these lots does.
    clusters = [lots[0]]
    above = [-1]
    left = list(lots[1:])
    while left:
        pairs = [
            (-shared_many(lot, cluster), number, place)
            for place, lot in enumerate(left) for number, cluster in enumerate(clusters)
        ]
        _, number, place = min(pairs)
        clusters.append(left.pop(place))
        above.append(number)
    return (tuple(clusters), tuple(above))


def shared_many(lot, other):
    """How many things two lots share."""
    return len([thing for thing in lot if thing in other])


def tree_of_ties(ties, things):
    """Some tree of the greatest lots of pairwise tied things."""
    # Each such lot is the one that its first thing in the sequence makes.
    return shape_of(greatest_lots(made_lots(ties, smooth_sequence(ties, things))))


def checked_sequence(net, value):
    """Any value, if it is a sequence of all things."""
    if not is_sequence(tuple(range(len(net.things))), value):
        raise Refused("sequence")
    return value


def tree_of(net, sequence):
    """Some tree of all things for the ties that a sequence fills in."""
    filled = filled_ties(married_ties(net), checked_sequence(net, sequence))
    return tree_of_ties(filled, tuple(range(len(net.things))))


def thin_tree(net, sequence):
    """Some tree of all things for some thin ties of those that a sequence fills in."""
    ties = married_ties(net)
    filled = filled_ties(ties, checked_sequence(net, sequence))
    return tree_of_ties(thin_ties(ties, filled), tuple(range(len(net.things))))


def joined_tree(lots):
    """Some tree of some lots, or a bare loop or a knot for which there is none."""
    shape = shape_of(lots)
    if runs_through(shape):
        return ("tree", shape)
    ties = ties_within(lots)
    loop = bare_loop(ties)
    if loop is not None:
        return ("loop", loop)
    things = tuple(sorted(set([thing for lot in lots for thing in lot])))
    clusters = tree_of_ties(ties, things)[0]
    knots = [cluster for cluster in clusters if not any([has_all(lot, cluster) for lot in lots])]
    return ("knot", knots[0])


def smaller_tree(tree):
    """Some tree of the clusters that are part of no other one, each once."""
    return shape_of(greatest_lots(tree[0]))


def turned_tree(tree, number):
    """The tree with the same neighbours in which a cluster comes first."""
    clusters, above = tree
    way = way_up(tree, number)
    order = way + tuple([other for other in range(len(above)) if other not in way])
    place = {old: new for new, old in enumerate(order)}
    over = {old: above[old] for old in order}
    for below, old in zip(way, way[1:]):
        over[old] = below
    turned = (-1,) + tuple([place[over[old]] for old in order[1:]])
    return (tuple([clusters[old] for old in order]), turned)


def widened_tree(tree, number, lot):
    """The tree with a lot added to a cluster, and to those over which it must run."""
    wider = {}
    for thing in lot:
        ways = [
            cluster_way(tree, number, other) for other, cluster in enumerate(tree[0]) if thing in cluster
        ]
        for at in min(ways, key=len, default=(number,)):
            wider.setdefault(at, []).append(thing)
    clusters = [tuple(sorted(set(cluster + tuple(wider.get(at, []))))) for at, cluster in enumerate(tree[0])]
    return (tuple(clusters), tree[1])
