"""Totals, shares and likely worlds, found by looking at all worlds."""

from allworlds.claims import holding_bits, things_of_claim
from allworlds.errors import Refused
from allworlds.fillings import at_places, fill_count, fillings_of, places_by, steps_by
from allworlds.numbers import divided, order_keys, scaled_to_one, taken, timed, total_of_all
from allworlds.tables import counts_in
from allworlds.worlds import weighted_worlds


def plain_total(net, news):
    """The sum of the weights of all worlds."""
    return total_of_all([weight for _, weight in weighted_worlds(net, news)])


def plain_sums(net, news, lot):
    """For each filling of a lot the sum of the weights of the worlds with these cases."""
    found = {}
    for world, weight in weighted_worlds(net, news):
        found.setdefault(at_places(world, lot), []).append(weight)
    return tuple([total_of_all(found.get(filling, ())) for filling in fillings_of(counts_in(net, lot))])


def known_total(weights):
    """The sum of weights of which not all may be 0."""
    total = total_of_all(weights)
    if total[0] == 0:
        raise Refused("barred")
    return total


def weight_with(weights, bits):
    """The sum of those weights that have their bits in a number."""
    return total_of_all([weight for number, weight in enumerate(weights) if bits >> number & 1])


def plain_share(net, news, claim):
    """The share of a claim by news."""
    things = things_of_claim(claim)
    sums = plain_sums(net, news, things)
    total = known_total(sums)
    return divided(weight_with(sums, holding_bits(claim, things, counts_in(net, things))), total)


def plain_shares(net, news, lot):
    """For each filling of a lot its share by the news."""
    return scaled_to_one(plain_sums(net, news, lot))


def plain_best(net, news, many):
    """The first so many worlds with their shares, the greatest shares first."""
    return plain_best_in(net, news, tuple(range(len(net.things))), many)


def plain_best_in(net, news, lot, many):
    """The first so many fillings of a lot with their shares, the greatest shares first."""
    sums = plain_sums(net, news, lot)
    total = known_total(sums)
    fillings = fillings_of(counts_in(net, lot))
    ranked = sorted([(-key, number) for number, key in enumerate(order_keys(sums)) if sums[number][0] > 0])
    return tuple([(divided(sums[number], total), fillings[number]) for _, number in ranked[:many]])


def plain_lift(net, news, claim, other):
    """The share of a claim among the worlds with another one, less its share among all."""
    things = things_of_claim(("and", claim, other))
    counts = counts_in(net, things)
    sums = plain_sums(net, news, things)
    total = known_total(sums)
    bits = holding_bits(claim, things, counts)
    within = holding_bits(other, things, counts)
    weight = weight_with(sums, within)
    if weight[0] == 0:
        raise Refused("barred")
    return taken(divided(weight_with(sums, bits & within), weight), divided(weight_with(sums, bits), total))


def are_unbound(net, news, one, other):
    """Whether each share of two lots without a common thing is the product of the shares of its parts."""
    lot = tuple(sorted(one + other))
    counts = counts_in(net, lot)
    sums = plain_sums(net, news, lot)
    total = known_total(sums)
    ones = plain_sums(net, news, one)
    others = plain_sums(net, news, other)
    places = places_by(lot, counts, steps_by(one, counts_in(net, one)))
    beside = places_by(lot, counts, steps_by(other, counts_in(net, other)))
    return all([
        timed(sums[number], total) == timed(ones[places[number]], others[beside[number]])
        for number in range(fill_count(counts))
    ])
