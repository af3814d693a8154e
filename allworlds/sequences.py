"""Sequences in which things are left out, and their clusters."""

from allworlds.kinds import has_each_once
from allworlds.nets import family_of


def scopes_in(net):
    """The families of all things."""
    return tuple([family_of(net, thing) for thing in range(len(net.things))])


def scopes_without(scopes, lot):
    """Scopes without the things of a lot."""
    return tuple([tuple([thing for thing in scope if thing not in lot]) for scope in scopes])


def is_sequence(lot, value):
    """Whether any value is a sequence of a lot."""
    return has_each_once(value, lot)


def joined_scopes(scopes, thing):
    """The lot of a thing and all things of the scopes that have it."""
    tied = [other for scope in scopes if thing in scope for other in scope]
    return tuple(sorted(set([thing] + tied)))


def left_out(scopes, thing):
    """The scopes after a thing has been left out."""
    union = tuple([other for other in joined_scopes(scopes, thing) if other != thing])
    return tuple([scope for scope in scopes if thing not in scope]) + (union,)


def scopes_left(scopes, sequence):
    """The scopes after a sequence has been left out."""
    for thing in sequence:
        scopes = left_out(scopes, thing)
    return scopes


def cluster_behind(scopes, before, thing):
    """The cluster of a thing behind those left out before."""
    return joined_scopes(scopes_left(scopes, before), thing)


def clusters_by(scopes, sequence):
    """For each thing of a sequence its cluster behind those before it."""
    clusters = []
    for thing in sequence:
        clusters.append(joined_scopes(scopes, thing))
        scopes = left_out(scopes, thing)
    return tuple(clusters)


def lot_size(counts, lot):
    """How many fillings a lot has."""
    size = 1
    for thing in lot:
        size = size * counts[thing]
    return size


def sizes_by(counts, scopes, sequence):
    """The sizes of the clusters by a sequence."""
    return tuple([lot_size(counts, cluster) for cluster in clusters_by(scopes, sequence)])


def cost_by(counts, scopes, sequence, kind):
    """The greatest size of a cluster by a sequence, or the sum of all sizes."""
    sizes = sizes_by(counts, scopes, sequence)
    return sum(sizes) if kind == "total" else max(sizes, default=0)


def flows_by(scopes, sequence):
    """For each thing of a sequence the first one behind it in its cluster, or None."""
    flows = []
    for place, cluster in enumerate(clusters_by(scopes, sequence)):
        behind = [thing for thing in sequence[place + 1:] if thing in cluster]
        flows.append(behind[0] if behind else None)
    return tuple(flows)


def settled_sequence(scopes, sequence):
    """The least sequence in which each thing has the same cluster."""
    flow = {thing: goal for thing, goal in zip(sequence, flows_by(scopes, sequence))}
    settled = []
    while flow:
        ready = [thing for thing in flow if thing not in list(flow.values())]
        settled.append(min(ready))
        del flow[min(ready)]
    return tuple(settled)


def greedy_sequence(counts, scopes, lot):
    """The sequence that takes each time the least thing with a cluster of the least size."""
    clusters = {thing: joined_scopes(scopes, thing) for thing in lot}
    sizes = {thing: lot_size(counts, clusters[thing]) for thing in lot}
    sequence = []
    while sizes:
        thing = min([(size, other) for other, size in sizes.items()])[1]
        sequence.append(thing)
        del sizes[thing]
        cluster = clusters[thing]
        # Leaving it out changes no clusters but those of the things in its own one.
        for other in cluster:
            if other in sizes:
                tied = sorted(set(clusters[other] + cluster))
                clusters[other] = tuple([one for one in tied if one != thing])
                sizes[other] = lot_size(counts, clusters[other])
    return tuple(sequence)
