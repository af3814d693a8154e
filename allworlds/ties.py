"""Ties between things, and sequences that fill few of them in."""

from allworlds.errors import Refused
from allworlds.nets import family_of


def things_in(lots):
    """The lot of all things that some lot has."""
    return tuple(sorted(set([thing for lot in lots for thing in lot])))


def ties_within(lots):
    """The ties of all pairs that some lot has."""
    pairs = [(one, other) for lot in lots for one in lot for other in lot if one < other]
    return tuple(sorted(set(pairs)))


def married_ties(net):
    """The ties of all pairs that some family has."""
    return ties_within([family_of(net, thing) for thing in range(len(net.things))])


def tied_to(ties, thing):
    """The lot of the things tied to a thing."""
    behind = [other for one, other in ties if one == thing]
    ahead = [one for one, other in ties if other == thing]
    return tuple(sorted(ahead + behind))


def made_lots(ties, sequence):
    """For each thing of a sequence the lot of it and the things tied to it when it is left out."""
    lots = []
    for thing in sequence:
        tied = tied_to(ties, thing)
        lots.append(tuple(sorted((thing,) + tied)))
        ties = without_thing_ties(ties_with(ties, tied), thing)
    return tuple(lots)


def ties_with(ties, lot):
    """Ties, and those of all pairs of a lot."""
    return tuple(sorted(set(ties + ties_within((lot,)))))


def without_thing_ties(ties, thing):
    """Ties without those of a thing."""
    return tuple([tie for tie in ties if thing not in tie])


def filled_ties(ties, sequence):
    """The ties of all pairs that some lot made by a sequence has."""
    return ties_within(made_lots(ties, sequence))


def is_smooth(ties, sequence):
    """Whether a sequence fills no tie in."""
    return filled_ties(ties, sequence) == ties


def are_tied(ties, lot):
    """Whether all things of a lot are tied with one another."""
    known = {tie: True for tie in ties}
    return all([pair in known for pair in ties_within((lot,))])


def smooth_sequence(ties, things):
    """Some smooth sequence of a lot of things with all that are tied."""
    sequence, left = smooth_start(ties, things)
    if left:
        raise Refused("loop")
    return sequence


def smooth_start(ties, things):
    """Things left out one after another that fill nothing in, as long as there are some; the ties left."""
    sequence = []
    left = list(things)
    while left:
        thing = first_smooth(ties, left)
        if thing is None:
            return (tuple(sequence), ties)
        sequence.append(thing)
        left.remove(thing)
        ties = without_thing_ties(ties, thing)
    return (tuple(sequence), ())


def first_smooth(ties, things):
    """The first of some things whose tied ones are all tied with one another, or None."""
    for thing in things:
        if are_tied(ties, tied_to(ties, thing)):
            return thing
    return None


def bare_loop(ties):
    """Some loop of four or more things without a tie across, or None."""
    # Things that fill nothing in are on no bare loop.
    _, core = smooth_start(ties, things_in(ties))
    for thing in things_in(core):
        tied = tied_to(core, thing)
        for one in tied:
            for other in tied:
                if one < other and (one, other) not in core:
                    path = path_around(core, thing, one, other)
                    if path is not None:
                        return (thing,) + path
    return None


def path_around(ties, thing, one, other):
    """Some shortest path between two things over none that are tied to a third one, or None."""
    barred = {item: True for item in tied_to(ties, thing) + (thing,) if item not in (one, other)}
    paths = {one: (one,)}
    rim = [one]
    while rim and other not in paths:
        further = {}
        for item in rim:
            for tied in tied_to(ties, item):
                if tied not in barred and tied not in paths and tied not in further:
                    further[tied] = paths[item] + (tied,)
        for item, path in further.items():
            paths[item] = path
        rim = list(further)
    return paths.get(other)


def thin_ties(ties, filled):
    """Some smooth ties between two, none of whose other parts with all of the first ones is smooth."""
    thinner = thinned_once(ties, filled)
    while len(thinner) < len(filled):
        filled = thinner
        thinner = thinned_once(ties, filled)
    return filled


def thinned_once(ties, filled):
    """Smooth ties without those, tried one after another, that can be taken from them."""
    left = filled
    for tie in filled:
        if tie not in ties and is_spare(left, tie):
            left = tuple([other for other in left if other != tie])
    return left


def is_spare(ties, tie):
    """Whether smooth ties stay smooth without one of them."""
    # They do exactly if the things tied to both ends are tied with one another.
    behind = tied_to(ties, tie[1])
    return are_tied(ties, tuple([thing for thing in tied_to(ties, tie[0]) if thing in behind]))
