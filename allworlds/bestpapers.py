"""Papers of the beginning of a ranking, and what is right of them."""

from allworlds.bounds import bound_at, entry_with, rims_of, stages_of, start_of
from allworlds.errors import InvalidPaper
from allworlds.fillings import at_places, fill_count
from allworlds.kinds import is_below, is_integer, is_lot_below
from allworlds.nets import counts_of
from allworlds.numbers import is_fraction, product_of_all
from allworlds.placing import (
    comes_before, first_factors, firsts_over, is_mixed_sequence, line_of, message_things, sums_over,
)
from allworlds.trees import has_all


class BestPaper:
    """A paper of the first fillings of a ranking: a lot, a mixed sequence, messages and the listing."""

    def __init__(self, lot, sequence, messages, listing):
        self.lot = lot
        self.sequence = sequence
        self.messages = messages
        self.listing = listing

    def __eq__(self, other):
        if not isinstance(other, BestPaper):
            return False
        one = (self.lot, self.sequence, self.messages, self.listing)
        return one == (other.lot, other.sequence, other.messages, other.listing)


def check_best_paper(net, news, many, value):
    """Raise InvalidPaper for any value that is no right paper for so many fillings."""
    at = best_fault(net, news, many, value)
    if at is not None:
        raise InvalidPaper(at)


def is_best_paper(net, news, many, value):
    """Whether any value is a right paper for so many fillings."""
    return best_fault(net, news, many, value) is None


def best_fault(net, news, many, value):
    """The place of what is first wrong with any value as a paper, or None."""
    if not has_best_form(net, value):
        return -1
    at = message_fault(net, news, value)
    if at is not None:
        return at
    stages = stages_of(net, news, value.sequence, value.messages)
    at = listing_fault(net, stages, many, value)
    if at is not None:
        return len(value.sequence) + at
    if not are_behind(net, stages, many, value):
        return len(value.sequence) + len(value.listing)
    return None


def has_best_form(net, value):
    """Whether any value is a paper with a lot, a mixed sequence of it, and as many messages as things."""
    if not isinstance(value, BestPaper) or not is_lot_below(value.lot, len(net.things)):
        return False
    if not is_mixed_sequence(net, value.lot, value.sequence):
        return False
    if not isinstance(value.messages, tuple) or len(value.messages) != len(value.sequence):
        return False
    return isinstance(value.listing, tuple)


def message_fault(net, news, paper):
    """The number of the first message that is not right, or None."""
    counts = counts_of(net)
    # Each factor comes with the lot of the things of which its placed parts tell.
    factors = [(factor, ()) for factor in first_factors(net, news)]
    for at, thing in enumerate(paper.sequence):
        having = [pair for pair in factors if thing in pair[0][0]]
        taken = [factor for factor, _ in having]
        message = paper.messages[at]
        if not has_factor_form(counts, paper.sequence[at + 1:], message_things(taken, thing), message):
            return at
        told = ()
        if thing in paper.lot:
            told = tuple(sorted([one for _, lot in having for one in lot] + [thing]))
            if not are_firsts(counts, taken, thing, told, message):
                return at
        elif not are_sums(counts, taken, thing, message):
            return at
        factors = [pair for pair in factors if thing not in pair[0][0]] + [(message, told)]
    return None


def has_factor_form(counts, later, due, value):
    """Whether any value has the form of a factor on some later things, among them those that are due."""
    if not isinstance(value, tuple) or len(value) != 2:
        return False
    things, entries = value
    if not is_lot_below(things, len(counts)) or not has_all(later, things) or not has_all(things, due):
        return False
    return isinstance(entries, tuple) and len(entries) == fill_count(at_places(counts, things))


def are_sums(counts, taken, thing, message):
    """Whether a message has the sums over all cases of a thing as its entries."""
    if not all([is_fraction(entry) for entry in message[1]]):
        return False
    return message[1] == sums_over(counts, taken, message[0], thing)


def are_firsts(counts, taken, thing, told, message):
    """Whether the entries of a message are placed parts of some things before which nothing joined comes."""
    if not all([is_placed_part(counts, told, entry) for entry in message[1]]):
        return False
    firsts = firsts_over(counts, taken, message[0], thing)
    return not any([comes_before(first, entry) for first, entry in zip(firsts, message[1])])


def is_placed_part(counts, told, value):
    """Whether any value is None or a placed part with exactly some things."""
    if value is None:
        return True
    if not isinstance(value, tuple) or len(value) != 2 or not is_weight(value[0]):
        return False
    if not isinstance(value[1], tuple) or len(value[1]) != len(told):
        return False
    return all([is_pair(counts, thing, item) for thing, item in zip(told, value[1])])


def is_weight(value):
    """Whether any value is a fraction above 0."""
    return is_fraction(value) and value[0] > 0


def is_pair(counts, thing, value):
    """Whether any value is a pair of a thing and a case of it."""
    if not isinstance(value, tuple) or len(value) != 2 or not is_integer(value[0]):
        return False
    return value[0] == thing and is_below(value[1], counts[thing])


def listing_fault(net, stages, many, paper):
    """The number of the first wrong item of a listing, or None."""
    counts = at_places(counts_of(net), paper.lot)
    last = None
    for at, item in enumerate(paper.listing):
        if at >= many or not is_placed_filling(counts, item):
            return at
        if item[0] != weight_at(net, stages, paper, item[1]):
            return at
        if last is not None and not comes_before(last, item):
            return at
        last = item
    return None


def is_placed_filling(counts, value):
    """Whether any value is a pair of a weight above 0 and a filling."""
    if not isinstance(value, tuple) or len(value) != 2 or not is_weight(value[0]):
        return False
    filling = value[1]
    if not isinstance(filling, tuple) or len(filling) != len(counts):
        return False
    return all([is_below(case, count) for case, count in zip(filling, counts)])


def weight_at(net, stages, paper, filling):
    """The weight of a filling of the lot, by the sums that the things outside it leave."""
    counts = counts_of(net)
    cases = {thing: case for thing, case in zip(paper.lot, filling)}
    left = stages[len(paper.sequence) - len(paper.lot)]
    return product_of_all([entry_with(counts, factor, cases) for factor in left])


def are_behind(net, stages, many, paper):
    """Whether all bounds of rims come behind the last item, and are None if there are fewer than there may be."""
    counts = counts_of(net)
    line = line_of(paper.lot, paper.sequence)
    starts = [start_of(paper.lot, line, filling) for _, filling in paper.listing]
    bounds = [bound_at(counts, stages, line, rim) for rim in rims_of(counts, line, starts)]
    if len(starts) < many:
        return all([bound is None for bound in bounds])
    return all([comes_before(paper.listing[-1], bound) for bound in bounds])


def bound_of_start(net, news, paper, start):
    """The bound of a start by the messages of a paper, which are right."""
    stages = stages_of(net, news, paper.sequence, paper.messages)
    return bound_at(counts_of(net), stages, line_of(paper.lot, paper.sequence), start)
