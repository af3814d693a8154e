"""Claims about the cases of things."""

from allworlds.errors import InvalidClaim, Refused
from allworlds.fillings import at_places, fill_count, filling_at
from allworlds.kinds import is_below, is_lot_below
from allworlds.nets import counts_of
from allworlds.worlds import MOST


def claim_fault(net, value):
    """The number of the first part of any value that is no claim about the net, or None."""
    waiting = [value]
    at = 0
    while waiting:
        part = waiting.pop()
        if not has_claim_form(net, part):
            return at
        # The first claim of a part comes next, so it must lie on top.
        waiting.extend(claims_in(part)[::-1])
        at += 1
    return None


def check_claim(net, value):
    """Raise InvalidClaim for any value that is no claim about the net."""
    at = claim_fault(net, value)
    if at is not None:
        raise InvalidClaim(at)


def has_claim_form(net, value):
    """Whether any value is a claim, if the claims in it are some."""
    if not isinstance(value, tuple) or not value or not isinstance(value[0], str):
        return False
    word = value[0]
    if word == "not":
        return len(value) == 2
    if word == "and" or word == "or":
        return len(value) >= 3
    if word != "is" or len(value) != 3 or not is_below(value[1], len(net.things)):
        return False
    return is_lot_below(value[2], net.things[value[1]][1])


def claims_in(part):
    """The claims of which a claim is made, none for an "is"."""
    return () if part[0] == "is" else part[1:]


def parts_of_claim(claim):
    """All parts of a claim, in the sequence of their numbers."""
    parts = []
    waiting = [claim]
    while waiting:
        part = waiting.pop()
        parts.append(part)
        waiting.extend(claims_in(part)[::-1])
    return tuple(parts)


def folded(claim, told):
    """What `told` makes of a claim, from the part and what it made of the claims in it."""
    made = []
    for part in reversed(parts_of_claim(claim)):
        # The parts are met from the last one on, so the first claim lies on top.
        start = len(made) - len(claims_in(part))
        below = made[start:][::-1]
        del made[start:]
        made.append(told(part, below))
    return made[0]


def things_of_claim(claim):
    """The lot of the things of which a claim speaks."""
    return tuple(sorted(set([part[1] for part in parts_of_claim(claim) if part[0] == "is"])))


def holds(claim, world):
    """Whether a claim holds in a world."""
    return folded(claim, lambda part, below: part_holds(part, below, world))


def part_holds(part, below, world):
    """Whether a part holds in a world, from whether the claims in it do."""
    if part[0] == "is":
        return world[part[1]] in part[2]
    if part[0] == "not":
        return not below[0]
    return all(below) if part[0] == "and" else any(below)


def without_not(net, claim, *, turned=False):
    """The claim, or if turned the one that holds in all other worlds, without "not"."""
    straight, other = folded(claim, lambda part, below: both_ways(net, part, below))
    return other if turned else straight


def both_ways(net, part, below):
    """A part without "not" and the one that holds in all other worlds, from those of its claims."""
    if part[0] == "is":
        rest = [case for case in range(net.things[part[1]][1]) if case not in part[2]]
        return (part, ("is", part[1], tuple(rest)))
    if part[0] == "not":
        return (below[0][1], below[0][0])
    straight = (part[0],) + tuple([pair[0] for pair in below])
    other = ("or" if part[0] == "and" else "and",) + tuple([pair[1] for pair in below])
    return (straight, other)


def parting_world(net, one, other):
    """Some world in which just one of two claims holds, or None."""
    things = things_of_claim(("or", one, other))
    counts = at_places(counts_of(net), things)
    if fill_count(counts) > MOST:
        raise Refused("size")
    parting = holding_bits(one, things, counts) ^ holding_bits(other, things, counts)
    if parting == 0:
        return None
    least = (parting & -parting).bit_length() - 1
    cases = {thing: case for thing, case in zip(things, filling_at(counts, least))}
    return tuple([cases.get(thing, 0) for thing in range(len(net.things))])


def holding_bits(claim, things, counts):
    """A number that has a bit for each filling of some things with which a claim holds."""
    return folded(claim, lambda part, below: part_bits(part, below, things, counts))


def part_bits(part, below, things, counts):
    """The bits of a part, from those of the claims in it."""
    if part[0] == "is":
        return case_bits(counts, things.index(part[1]), part[2])
    whole = (1 << fill_count(counts)) - 1
    if part[0] == "not":
        return whole ^ below[0]
    bits = whole if part[0] == "and" else 0
    for item in below:
        bits = bits & item if part[0] == "and" else bits | item
    return bits


def case_bits(counts, place, cases):
    """The bits of the fillings that have one of some cases at a place."""
    behind = fill_count(counts[place + 1:])
    bits = sum([((1 << behind) - 1) << (case * behind) for case in cases])
    # What the later things make is repeated for each filling of those before.
    width = behind * counts[place]
    for count in counts[:place]:
        bits = sum([bits << (k * width) for k in range(count)])
        width = width * count
    return bits
