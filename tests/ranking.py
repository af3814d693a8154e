"""Rankings and messages by looking at all worlds, in Python's fractions."""

from fractions import Fraction
from itertools import product

from allworlds.nets import counts_of
from tests.drawn import all_worlds, draw_lot, pair_of, plain, plain_row, plain_weight


def weights_of(net, news, lot):
    """The weight of each filling of a lot."""
    found = {}
    for world in all_worlds(net):
        key = tuple(world[thing] for thing in lot)
        found[key] = found.get(key, 0) + plain_weight(net, news, world)
    return found


def plain_ranking(net, news, lot):
    """The fillings of a lot with a weight above 0, placed, in order."""
    ranked = sorted((-weight, filling) for filling, weight in weights_of(net, news, lot).items() if weight)
    return [(pair_of(-weight), filling) for weight, filling in ranked]


def shared_ranking(net, news, lot):
    """The ranking with shares in place of weights; there is a world with a weight above 0."""
    ranked = plain_ranking(net, news, lot)
    total = sum(plain(weight) for weight, _ in ranked)
    return [(pair_of(plain(weight) / total), filling) for weight, filling in ranked]


def draw_mixed(rng, net, lot):
    """Any mixed sequence of a lot."""
    outer = [thing for thing in range(len(net.things)) if thing not in lot]
    return tuple(rng.sample(outer, len(outer)) + rng.sample(lot, len(lot)))


def draw_any_lot(rng, net):
    """Any lot, often the empty one or all things."""
    kind = rng.randrange(5)
    if kind == 0:
        return ()
    return tuple(range(len(net.things))) if kind == 1 else draw_lot(rng, len(net.things))


def fillings_in(net, things):
    """All fillings of some things, ascending."""
    counts = counts_of(net)
    return list(product(*[range(counts[thing]) for thing in things]))


def plain_messages(net, news, lot, sequence):
    """The messages along a mixed sequence, by the words of the document: a pair of things and a dict for each."""
    told = dict(news)
    factors = []
    for thing, row in enumerate(net.things):
        lot_of = row[2] + (thing,)
        entries = {}
        for filling in fillings_in(net, lot_of):
            world = dict(zip(lot_of, filling))
            whole = [world.get(at, 0) for at in range(len(net.things))]
            weight = plain(told[thing][world[thing]]) if thing in told else 1
            entries[filling] = plain(plain_row(net, thing, whole)[world[thing]]) * weight
        factors.append((lot_of, entries))
    messages = []
    for thing in sequence:
        taken = [factor for factor in factors if thing in factor[0]]
        things = tuple(sorted({one for lot_of, _ in taken for one in lot_of} - {thing}))
        entries = {}
        for filling in fillings_in(net, things):
            joined = []
            for case in range(counts_of(net)[thing]):
                cases = {**dict(zip(things, filling)), thing: case}
                parts = [entries_of[tuple(cases[one] for one in lot_of)] for lot_of, entries_of in taken]
                joined.append((parts, case))
            entries[filling] = told_entry(joined, thing, thing in lot)
        messages.append((things, entries))
        factors = [factor for factor in factors if thing not in factor[0]] + [messages[-1]]
    return messages


def told_entry(joined, thing, is_in_lot):
    """The entry of a message from the entries taken at each case."""
    if not is_in_lot:
        total = Fraction(0)
        for parts, _ in joined:
            value = Fraction(1)
            for part in parts:
                value *= part
            total += value
        return total
    found = []
    for parts, case in joined:
        weight, pairs = Fraction(1), ((thing, case),)
        for part in parts:
            value = part if isinstance(part, tuple) else (Fraction(part or 0), ())
            weight *= value[0]
            pairs += value[1]
        if weight:
            found.append((-weight, tuple(sorted(pairs))))
    return (-min(found)[0], min(found)[1]) if found else None


def as_told(entry):
    """An entry of plain_messages as the package tells it."""
    if entry is None:
        return None
    return (pair_of(entry[0]), entry[1]) if isinstance(entry, tuple) else pair_of(Fraction(entry))
