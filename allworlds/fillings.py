"""Fillings: tuples with a case for each of some things."""


def fill_count(counts):
    """How many fillings there are of things with so many cases each."""
    many = 1
    for count in counts:
        many = many * count
    return many


def fillings_of(counts):
    """All fillings, ascending."""
    fillings = [()]
    for count in counts:
        fillings = [filling + (case,) for filling in fillings for case in range(count)]
    return tuple(fillings)


def filling_number(counts, filling):
    """The index of a filling among all, ascending."""
    number = 0
    for count, case in zip(counts, filling):
        number = number * count + case
    return number


def filling_at(counts, number):
    """The filling with an index among all, ascending."""
    cases = []
    for count in reversed(counts):
        cases.append(number % count)
        number = number // count
    return tuple(cases[::-1])


def at_places(filling, places):
    """The cases of a filling at some places, in their sequence."""
    return tuple([filling[place] for place in places])


def steps_by(things, counts):
    """For each of some things, how far apart the indexes of fillings are if its case is one more."""
    steps = {}
    step = 1
    for place in reversed(range(len(things))):
        steps[things[place]] = step
        step = step * counts[place]
    return steps


def places_by(things, counts, steps, first=0):
    """For each filling of some things, ascending, the index to which it leads by steps, from a first one on."""
    places = [first]
    for thing, count in zip(things, counts):
        step = steps.get(thing, 0)
        places = [place + case * step for place in places for case in range(count)]
    return places
