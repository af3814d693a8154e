"""Nets of chances, their things and families, and news of them."""

from allworlds.errors import InvalidNet, InvalidNews, Refused
from allworlds.fillings import at_places, fill_count, filling_number
from allworlds.kinds import is_below, is_integer, is_lot_below, is_name
from allworlds.numbers import ONE, ZERO, timed
from allworlds.rows import are_rows, are_weights


class Net:
    """A net of chances; raises InvalidNet for what are no things of one."""

    def __init__(self, things):
        at = wrong_thing(things)
        if at is not None:
            raise InvalidNet(at)
        self.things = things

    def __eq__(self, other):
        return isinstance(other, Net) and self.things == other.things


def wrong_thing(value):
    """The number of the first wrong thing of any value, -1 for no tuple with things, or None."""
    if not isinstance(value, tuple) or not value:
        return -1
    names = {}
    counts = []
    for at, thing in enumerate(value):
        if not is_thing(thing, names, counts):
            return at
        names[thing[0]] = True
        counts.append(thing[1])
    return None


def is_thing(value, names, counts):
    """Whether any value is a thing behind those with these names and numbers of cases."""
    if not isinstance(value, tuple) or len(value) != 4:
        return False
    name, count, parents, rows = value
    if not is_name(name) or name in names:
        return False
    if not is_integer(count) or count < 2:
        return False
    if not is_lot_below(parents, len(counts)):
        return False
    return are_rows(rows, fill_count(at_places(counts, parents)), count)


def names_of(net):
    """The names of all things."""
    return tuple([thing[0] for thing in net.things])


def counts_of(net):
    """The numbers of cases of all things."""
    return tuple([thing[1] for thing in net.things])


def number_of(net, name):
    """The number of the thing with a name, which may be any value."""
    if isinstance(name, str):
        for number, thing in enumerate(net.things):
            if thing[0] == name:
                return number
    raise Refused("name")


def parent_counts(net, thing):
    """The numbers of cases of a thing's parents."""
    return tuple([net.things[parent][1] for parent in net.things[thing][2]])


def row_for(net, thing, filling):
    """The row of a thing for a filling of its parents."""
    return net.things[thing][3][filling_number(parent_counts(net, thing), filling)]


def chance_at(net, thing, world):
    """The fraction of a thing in the share of a world."""
    return row_for(net, thing, at_places(world, net.things[thing][2]))[world[thing]]


def parents_of(net, thing):
    """The lot of a thing's parents."""
    return net.things[thing][2]


def children_of(net, thing):
    """The lot of the things of which a thing is a parent."""
    return tuple([child for child, row in enumerate(net.things) if thing in row[2]])


def family_of(net, thing):
    """The lot of a thing and its parents."""
    # A parent stands before its child, so the thing is the greatest.
    return net.things[thing][2] + (thing,)


def older_lot(net, things):
    """The least lot with these things and, with each thing, its parents."""
    found = {thing: True for thing in things}
    for thing in reversed(range(len(net.things))):
        if thing in found:
            for parent in net.things[thing][2]:
                found[parent] = True
    return tuple(sorted(found))


def younger_lot(net, things):
    """The least lot with these things and, with each thing, its children."""
    found = {thing: True for thing in things}
    for thing, row in enumerate(net.things):
        if any([parent in found for parent in row[2]]):
            found[thing] = True
    return tuple(sorted(found))


def check_news(net, value):
    """Raise InvalidNews for any value that is no news of the net."""
    if not isinstance(value, tuple):
        raise InvalidNews(-1)
    last = -1
    for at, item in enumerate(value):
        if not is_news_item(net, item) or item[0] <= last:
            raise InvalidNews(at)
        last = item[0]


def is_news_item(net, value):
    """Whether any value is a pair of the number of a thing and weights for it."""
    if not isinstance(value, tuple) or len(value) != 2:
        return False
    thing, weights = value
    return is_below(thing, len(net.things)) and are_weights(weights, net.things[thing][1])


def finding(net, thing, case):
    """The item of news with weight 1 for a case of a thing, 0 for all others."""
    return (thing, tuple([ONE if k == case else ZERO for k in range(net.things[thing][1])]))


def weights_in(net, news, thing):
    """The weights that news have for a thing, 1 for each case if none."""
    for told, weights in news:
        if told == thing:
            return weights
    return (ONE,) * net.things[thing][1]


def joined_news(one, other):
    """The news with the products of the weights of both."""
    found = {thing: weights for thing, weights in one}
    for thing, weights in other:
        if thing in found:
            weights = tuple([timed(a, b) for a, b in zip(found[thing], weights)])
        found[thing] = weights
    for weights in found.values():
        if not any([weight[0] > 0 for weight in weights]):
            raise Refused("barred")
    return tuple([(thing, found[thing]) for thing in sorted(found)])


def subnet(net, lot):
    """The net of the older lot of some things alone."""
    kept = older_lot(net, lot)
    new = {old: number for number, old in enumerate(kept)}
    things = []
    for old in kept:
        name, count, parents, rows = net.things[old]
        things.append((name, count, tuple([new[parent] for parent in parents]), rows))
    return Net(tuple(things))


def renamed(net, names):
    """The net with other names; names may be any value."""
    if not isinstance(names, tuple) or len(names) != len(net.things):
        raise Refused("names")
    if not all([is_name(name) for name in names]) or len(set(names)) < len(names):
        raise Refused("names")
    return Net(tuple([(name,) + thing[1:] for name, thing in zip(names, net.things)]))


def with_rows(net, thing, rows):
    """The net with other rows of a thing; rows may be any value."""
    # All else is right, so Net raises InvalidNet for this thing or not at all.
    changed = net.things[thing][:3] + (rows,)
    return Net(net.things[:thing] + (changed,) + net.things[thing + 1:])
