"""Trees of clusters."""

from allworlds.errors import InvalidTree, Refused
from allworlds.kinds import is_below, is_integer, is_lot_below
from allworlds.nets import counts_of, family_of
from allworlds.sequences import lot_size


def cut_of(shape, number):
    """The lot that a cluster and the one above it share, empty for the first one."""
    clusters, above = shape
    if number == 0:
        return ()
    return tuple([thing for thing in clusters[number] if thing in clusters[above[number]]])


def runs_through(shape):
    """Whether each thing that two clusters share is in all on the way between them."""
    return all([runs_at(shape[0], shape[1], number) for number in range(len(shape[0]))])


def runs_at(clusters, above, number):
    """Whether a cluster shares nothing with earlier ones that the one above it has not."""
    if number == 0:
        return True
    new = [thing for thing in clusters[number] if thing not in clusters[above[number]]]
    return not any([thing in cluster for cluster in clusters[:number] for thing in new])


def tree_fault(net, value):
    """The number of the first wrong cluster of any value, -1 if it has not the form, or None."""
    if not isinstance(value, tuple) or len(value) != 2:
        return -1
    clusters, above = value
    if not isinstance(clusters, tuple) or not isinstance(above, tuple):
        return -1
    if not clusters or len(clusters) != len(above):
        return -1
    for number, cluster in enumerate(clusters):
        if not is_lot_below(cluster, len(net.things)) or not is_above(above[number], number):
            return number
        if not runs_at(clusters, above, number):
            return number
    return None


def is_above(value, number):
    """Whether any value can stand for what is above a cluster."""
    if number == 0:
        return is_integer(value) and value == -1
    return is_below(value, number)


def check_tree(net, value):
    """Raise InvalidTree for any value that is no tree of things of the net."""
    at = tree_fault(net, value)
    if at is not None:
        raise InvalidTree(at)


def is_tree(net, value):
    """Whether any value is a tree of things of the net."""
    return tree_fault(net, value) is None


def children_in(tree, number):
    """The lot of the numbers of the clusters right below a cluster."""
    return tuple([below for below, over in enumerate(tree[1]) if over == number])


def below_lot(tree, number):
    """The lot of the numbers of a cluster and all below it."""
    found = {number: True}
    for below, over in enumerate(tree[1]):
        if over in found:
            found[below] = True
    return tuple(sorted(found))


def way_up(tree, number):
    """The numbers of the clusters from one to the first, upwards."""
    way = [number]
    while tree[1][way[-1]] != -1:
        way.append(tree[1][way[-1]])
    return tuple(way)


def cluster_way(tree, one, other):
    """The numbers of the clusters on the way between two, with both."""
    up = way_up(tree, one)
    down = way_up(tree, other)
    meet = [number for number in up if number in down][0]
    return up[:up.index(meet)] + down[:down.index(meet) + 1][::-1]


def sides_of(tree, number):
    """The lots of the things below a cut and beyond it, without those of the cut."""
    cut = cut_of(tree, number)
    below = below_lot(tree, number)
    inner = [thing for at in below for thing in tree[0][at] if thing not in cut]
    outer = [
        thing for at, cluster in enumerate(tree[0]) if at not in below
        for thing in cluster if thing not in cut
    ]
    return (tuple(sorted(set(inner))), tuple(sorted(set(outer))))


def has_all(cluster, lot):
    """Whether a cluster has all things of a lot."""
    return all([thing in cluster for thing in lot])


def holder_of(tree, lot):
    """The number of the first cluster that has all of a lot, or None."""
    for number, cluster in enumerate(tree[0]):
        if has_all(cluster, lot):
            return number
    return None


def homes_of(net, tree):
    """The holders of all families."""
    homes = [holder_of(tree, family_of(net, thing)) for thing in range(len(net.things))]
    if None in homes:
        raise Refused("home")
    return tuple(homes)


def are_homes(net, tree, value):
    """Whether any value is a tuple with a cluster that has its family for each thing."""
    if not isinstance(value, tuple) or len(value) != len(net.things):
        return False
    return all([is_home(net, tree, thing, home) for thing, home in enumerate(value)])


def is_home(net, tree, thing, value):
    """Whether any value is the number of a cluster that has a thing's family."""
    if not is_below(value, len(tree[0])):
        return False
    return has_all(tree[0][value], family_of(net, thing))


def tree_size(net, tree):
    """How many fillings all clusters have together."""
    counts = counts_of(net)
    return sum([lot_size(counts, cluster) for cluster in tree[0]])
