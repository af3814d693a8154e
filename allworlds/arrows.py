"""Arrows from parents to children, and which of them matter."""

from allworlds.fillings import at_places, fillings_of
from allworlds.nets import Net, parent_counts, parents_of


def heard_news(net, news):
    """The news without all items whose weights are all equal."""
    return tuple([item for item in news if len(set(item[1])) > 1])


def told_case(weights):
    """The only case with a weight above 0, or None."""
    cases = [case for case, weight in enumerate(weights) if weight[0] > 0]
    return cases[0] if len(cases) == 1 else None


def told_pairs(net, news):
    """The pairs of a told thing and its told case."""
    pairs = [(thing, told_case(weights)) for thing, weights in news]
    return tuple([pair for pair in pairs if pair[1] is not None])


def is_idle(net, thing, parent):
    """Whether the rows of a thing are the same for all cases of a parent."""
    place = parents_of(net, thing).index(parent)
    first = {}
    for filling, row in zip(fillings_of(parent_counts(net, thing)), net.things[thing][3]):
        if first.setdefault(filling[:place] + filling[place + 1:], row) != row:
            return False
    return True


def fixed_thing(net, thing, fixed):
    """A thing without the parents in a dict, with its rows at the cases there."""
    name, count, parents, rows = net.things[thing]
    left = tuple([parent for parent in parents if parent not in fixed])
    places = [place for place, parent in enumerate(parents) if parent in fixed]
    cases = tuple([fixed[parents[place]] for place in places])
    fillings = fillings_of(parent_counts(net, thing))
    kept = [row for filling, row in zip(fillings, rows) if at_places(filling, places) == cases]
    return (name, count, left, tuple(kept))


def lean_net(net):
    """The net without idle parents."""
    things = []
    for thing, row in enumerate(net.things):
        idle = {parent: 0 for parent in row[2] if is_idle(net, thing, parent)}
        things.append(fixed_thing(net, thing, idle))
    return Net(tuple(things))


def cut_net(net, news):
    """The net in which told things are nobody's parents."""
    told = {thing: case for thing, case in told_pairs(net, news)}
    return Net(tuple([fixed_thing(net, thing, told) for thing in range(len(net.things))]))
