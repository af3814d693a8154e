"""Free things, floors, and sequences of the least cost with papers."""

from allworlds.errors import Refused
from allworlds.kinds import is_below, is_lot, is_number
from allworlds.sequences import cost_by, is_sequence, joined_scopes, left_out, lot_size, scopes_left

MOST_LEFT = 10


def is_free(scopes, before, thing):
    """Whether all others of a thing's cluster are in one another's, behind the same things."""
    return is_free_now(scopes_left(scopes, before), thing)


def is_free_now(scopes, thing):
    """Whether all others of a thing's cluster are in one another's."""
    others = [other for other in joined_scopes(scopes, thing) if other != thing]
    for one in others:
        cluster = joined_scopes(scopes, one)
        if not all([other in cluster for other in others]):
            return False
    return True


def free_first(scopes, lot):
    """The things of a lot left out if the least free one always is, until none is free."""
    sequence = []
    left = list(lot)
    thing = first_free(scopes, left)
    while thing is not None:
        sequence.append(thing)
        left.remove(thing)
        scopes = left_out(scopes, thing)
        thing = first_free(scopes, left)
    return tuple(sequence)


def first_free(scopes, things):
    """The first of some things that is free, or None."""
    for thing in things:
        if is_free_now(scopes, thing):
            return thing
    return None


def core_floor(counts, scopes, lot):
    """The greatest floor of a part of a lot, and the part with it that has all others with it."""
    best = (0, ())
    left = lot
    while left:
        # A thing with the least size is in no part with a greater floor.
        sizes = [(tied_size(counts, scopes, lot, left, thing), thing) for thing in left]
        size, least = min(sizes)
        if size > best[0]:
            best = (size, left)
        left = tuple([thing for thing in left if thing != least])
    return best


def tied_size(counts, scopes, lot, part, thing):
    """The size of a thing with all tied to it that are in a part of the lot or not in the lot."""
    tied = joined_scopes(scopes, thing)
    return lot_size(counts, [other for other in tied if other in part or other not in lot])


def is_least_sequence(counts, scopes, lot, kind, value):
    """Whether any value is a cost paper."""
    if not isinstance(value, tuple) or len(value) != 3:
        return False
    many, sequence, heights = value
    if not is_number(many) or not is_sequence(lot, sequence) or many > len(sequence):
        return False
    if kind == "total" and many > 0:
        return False
    if not are_free(scopes, sequence[:many]):
        return False
    cost = cost_by(counts, scopes, sequence, kind)
    rest = tuple(sorted(sequence[many:]))
    if not are_heights(heights, rest, cost):
        return False
    first = cost_by(counts, scopes, sequence[:many], kind)
    return are_right(counts, scopes_left(scopes, sequence[:many]), rest, kind, heights, first, cost)


def are_free(scopes, sequence):
    """Whether each thing of a sequence is free behind those before it."""
    for thing in sequence:
        if not is_free_now(scopes, thing):
            return False
        scopes = left_out(scopes, thing)
    return True


def are_heights(value, rest, cost):
    """Whether any value is an ascending tuple of heights, of unlike lots."""
    if not isinstance(value, tuple):
        return False
    last = None
    for pair in value:
        if not is_height(pair, rest, cost):
            return False
        if last is not None and pair[0] <= last:
            return False
        last = pair[0]
    return True


def is_height(value, rest, cost):
    """Whether any value is a pair of a lot of a rest, not all of it, and a number below a cost."""
    if not isinstance(value, tuple) or len(value) != 2:
        return False
    part, number = value
    if not is_lot(part) or len(part) == len(rest) or not is_below(number, cost):
        return False
    return all([thing in rest for thing in part])


def are_right(counts, scopes, rest, kind, heights, first, cost):
    """Whether heights rise by no more than they may, behind the first things."""
    height = {part: number for part, number in heights}
    if height.get((), cost) > first:
        return False
    for part, number in heights:
        left = scopes_left(scopes, part)
        for thing in rest:
            if thing not in part:
                longer = tuple(sorted(part + (thing,)))
                size = lot_size(counts, joined_scopes(left, thing))
                if height.get(longer, cost) > further_cost(kind, number, size):
                    return False
    return True


def further_cost(kind, cost, size):
    """The cost of a sequence with one more cluster of a size."""
    return cost + size if kind == "total" else max(cost, size)


def least_sequence(counts, scopes, lot, kind):
    """Some cost paper of a lot."""
    free = () if kind == "total" else free_first(scopes, lot)
    rest = tuple([thing for thing in lot if thing not in free])
    if len(rest) > MOST_LEFT:
        raise Refused("size")
    # For each part of the rest: its least cost, a sequence that has it, and the scopes behind it.
    start = (cost_by(counts, scopes, free, kind), (), scopes_left(scopes, free))
    found = {(): start}
    layer = {(): start}
    for _ in rest:
        layer = one_more(counts, rest, kind, layer)
        for part, told in layer.items():
            found[part] = told
    cost, behind, _ = found[rest]
    heights = sorted([(part, told[0]) for part, told in found.items() if told[0] < cost])
    return (len(free), free + behind, tuple(heights))


def one_more(counts, rest, kind, layer):
    """The parts with one more thing of the rest than those of a layer, each with what is least for it."""
    longer = {}
    for part, (cost, behind, scopes) in layer.items():
        for thing in rest:
            if thing not in part:
                grown = tuple(sorted(part + (thing,)))
                size = lot_size(counts, joined_scopes(scopes, thing))
                further = further_cost(kind, cost, size)
                if grown not in longer or further < longer[grown][0]:
                    longer[grown] = (further, behind + (thing,), left_out(scopes, thing))
    return longer


def least_width(counts, scopes, lot):
    """The least greatest size of a sequence of a lot."""
    sequence = least_sequence(counts, scopes, lot, "greatest")[1]
    return cost_by(counts, scopes, sequence, "greatest")
