"""Bounds of starts, and the rims of fillings, along the line of a mixed sequence."""

from allworlds.fillings import at_places, filling_number
from allworlds.placing import first_factors, joined_parts, other_factors


def stages_of(net, news, sequence, messages):
    """The factors left when no thing of a mixed sequence has taken factors, then one more each time."""
    factors = first_factors(net, news)
    stages = [factors]
    for thing, message in zip(sequence, messages):
        factors = other_factors(factors, thing) + [message]
        stages.append(factors)
    return stages


def entry_with(counts, factor, cases):
    """The entry of a factor at the cases of its things."""
    things, entries = factor
    return entries[filling_number(at_places(counts, things), at_places(cases, things))]


def bound_at(counts, stages, line, start):
    """The bound of a start, from the factors left at each stage."""
    cases = {thing: case for thing, case in zip(line, start)}
    left = stages[len(stages) - 1 - len(start)]
    placed = joined_parts([entry_with(counts, factor, cases) for factor in left])
    if placed is None:
        return None
    pairs = sorted(list(placed[1]) + list(cases.items()))
    return (placed[0], tuple([case for _, case in pairs]))


def start_of(lot, line, filling):
    """The cases of a filling of a lot along the line."""
    return tuple([filling[lot.index(thing)] for thing in line])


def starts_beside(counts, line, start, many):
    """The starts that have all cases of a start but their last one, which is not among its first so many."""
    return [
        start[:place] + (case,) for place in range(many, len(line)) for case in range(counts[line[place]])
        if case != start[place]
    ]


def rims_of(counts, line, starts):
    """The rims of fillings, which are told by their cases along the line."""
    if not starts:
        return [()]
    begun = {start[:many]: True for start in starts for many in range(len(line) + 1)}
    beside = [rim for start in starts for rim in starts_beside(counts, line, start, 0)]
    return sorted(set([rim for rim in beside if rim not in begun]))
