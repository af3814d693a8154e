"""Questions looked into: what the told things alone make of them.

First the things that are not told are summed out, once for all worlds and once
for what they count more than the bar. The tables over the told things that are
left tell the margin of each filling, and which fillings turn the answer.
"""

from allworlds.errors import Refused
from allworlds.nets import counts_of
from allworlds.numbers import fraction_of
from allworlds.parts import first_parts, left_out_of
from allworlds.sequences import cost_by, greedy_sequence
from allworlds.wholes import (
    cheapest_out_of, least_out_of, opened_out_of, over_one_bottom, product_of_last, summed_out_of, table_at,
    turning_tables, weighed_pair, whole_margins, whole_tables,
)
from allworlds.widths import MOST_LEFT, free_first, least_sequence
from allworlds.worlds import MOST

# For no more told things all their lots are looked at together, each a bit of one number.
MOST_TOGETHER = 12
# Over a longer bottom the tops are so long that fractions are quicker.
MOST_BITS = 16384


class Asked:
    """A question of a net with its answer; raises Refused if the total is 0."""

    def __init__(self, net, question):
        claim, bar, findings = question
        self.counts = counts_of(net)
        self.found = {thing: case for thing, case in findings}
        self.told = tuple([thing for thing, _ in findings])
        tables, left, self.bottoms = untold_out(net, claim, bar, things_untold(net, self.found))
        self.tables = tables
        self.margins = (left[0], list(zip(left[1], left[2])))
        self.sequence = easy_sequence(self.counts, [table[0] for table in tables] + [left[0]], self.told)
        margin = self.whole_margin(self.found)
        if margin[1] == 0:
            raise Refused("barred")
        self.answer = margin[0] >= 0
        if not self.answer:
            self.margins = (left[0], [(-first, -second) for first, second in self.margins[1]])
        self.turning = turning_tables(self.tables, self.margins)
        self._turned = None

    def whole_margin(self, fixed):
        """The least margin, in whole numbers, of the fillings with the cases of a dict for some told things."""
        lows = [table_at(self.counts, table, fixed) for table in self.tables]
        highs = lows
        margins = table_at(self.counts, self.margins, fixed)
        for thing in self.sequence:
            if thing not in fixed:
                lows, highs, margins = least_out_of(self.counts, lows, highs, margins, thing)
        low = product_of_last(lows)
        return weighed_pair(margins[1][0], low, low if highs == lows else product_of_last(highs))

    def margin_at(self, fixed):
        """The least margin of all fillings of the told things with the cases of a dict for some of them."""
        first, second = self.whole_margin(fixed)
        return (fraction_of(first, self.bottoms[0]), fraction_of(second, self.bottoms[1]))

    def least_cost(self, costs, fixed):
        """The least cost of a filling with the cases of a dict that turns the answer, or None if none does."""
        # What turns nothing costs more than all changes together.
        never = sum(list(costs.values())) + 1
        tables = [(order, [0 if bit else never for bit in bits]) for order, bits in self.turning]
        tables = tables + [
            ((thing,), [0 if case == self.found[thing] else cost for case in range(self.counts[thing])])
            for thing, cost in costs.items()
        ]
        tables = [table_at(self.counts, table, fixed) for table in tables]
        for thing in self.sequence:
            if thing not in fixed:
                tables = cheapest_out_of(self.counts, tables, thing)
        cost = sum([entries[0] for _, entries in tables])
        return None if cost >= never else cost

    def found_at(self, lot):
        """The cases found at the things of a lot, by thing."""
        return {thing: self.found[thing] for thing in lot}

    def turned_by(self, whole, masks):
        """A number with those bits for which some filling turns the answer.

        For each bit of the whole number a thing keeps the case found, unless its mask has this bit, too.
        """
        fixed = self.found_at([thing for thing in self.told if masks[thing] == 0])
        tables = [table_at(self.counts, table, fixed) for table in self.turning]
        tables = [(order, [whole if bit else 0 for bit in bits]) for order, bits in tables]
        for thing in self.sequence:
            if thing not in fixed:
                tables = opened_out_of(self.counts, tables, thing, self.found[thing], masks[thing])
        for _, entries in tables:
            whole = whole & entries[0]
        return whole

    def turned_lots(self):
        """A number with a bit for each turning lot, by the places of its things among the told ones."""
        if self._turned is None:
            masks = {thing: lots_with(place, len(self.told)) for place, thing in enumerate(self.told)}
            self._turned = self.turned_by((1 << (1 << len(self.told))) - 1, masks)
        return self._turned

    def has_reason(self, lot):
        """Whether a lot of told things is a reason."""
        if len(self.told) > MOST_TOGETHER:
            return self.turned_by(1, {thing: 0 if thing in lot else 1 for thing in self.told}) == 0
        rest = sum([1 << place for place, thing in enumerate(self.told) if thing not in lot])
        return self.turned_lots() >> rest & 1 == 0

    def reason_within(self, lot):
        """The reason within a reason that is left if each thing that can be is left out, ascending."""
        left = lot
        for thing in lot:
            less = tuple([other for other in left if other != thing])
            if self.has_reason(less):
                left = less
        return left

    def least_turned(self):
        """The turning lots of which no part is one, ascending; there are few told things."""
        turned = self.turned_lots()
        longer = 0
        for place in range(len(self.told)):
            longer = longer | (turned & ~lots_with(place, len(self.told))) << (1 << place)
        return self.lots_in(turned & ~longer)

    def least_reasons(self):
        """The reasons of which no part is one, ascending; there are few told things."""
        many = len(self.told)
        # What is left beside a reason is a lot that does not turn, and a greatest one beside a least reason.
        still = (1 << (1 << many)) - 1 & ~self.turned_lots()
        shorter = 0
        for place in range(many):
            shorter = shorter | (still & lots_with(place, many)) >> (1 << place)
        return tuple(sorted([
            tuple([thing for thing in self.told if thing not in lot]) for lot in self.lots_in(still & ~shorter)
        ]))

    def lots_in(self, bits):
        """The lots of told things for the bits of a number, ascending."""
        lots = []
        while bits:
            number = (bits & -bits).bit_length() - 1
            lots.append(tuple([thing for place, thing in enumerate(self.told) if number >> place & 1]))
            bits = bits & (bits - 1)
        return tuple(sorted(lots))


def things_untold(net, found):
    """The lot of the things that are not told."""
    return tuple([thing for thing in range(len(net.things)) if thing not in found])


def untold_out(net, claim, bar, lot):
    """The tables, and those of the margins, without the things of a lot, and the bottoms of both parts of margins."""
    counts = counts_of(net)
    tables, bottom = whole_tables(net)
    if bottom.bit_length() > MOST_BITS:
        return untold_out_by_fractions(net, claim, bar, lot)
    order, margins = whole_margins(net, claim, bar)
    left = (order, margins, [1] * len(margins))
    for thing in easy_sequence(counts, [table[0] for table in tables] + [order], lot):
        tables, left = summed_out_of(counts, tables, left, thing)
    return (tables, left, (bottom * bar[1], bottom))


def untold_out_by_fractions(net, claim, bar, lot):
    """What `untold_out` tells, with one bottom only for what is left."""
    counts = counts_of(net)
    parts = first_parts(net, claim, bar, True, {})
    for thing in easy_sequence(counts, [part[1] for part in parts], lot):
        parts = left_out_of(counts, parts, thing, False)
    tables, bottom = [], 1
    for part in parts:
        if part[0] == "plain":
            tops, common = over_one_bottom(part[2])
            tables.append((part[1], tops))
            bottom = bottom * common
    order, margins = [part[1:] for part in parts if part[0] == "margin"][0]
    firsts, one = over_one_bottom([first for first, _ in margins])
    seconds, other = over_one_bottom([second for _, second in margins])
    return (tables, (order, firsts, seconds), (bottom * one, bottom * other))


def easy_sequence(counts, scopes, lot):
    """A sequence in which the things of a lot are left out with few fillings."""
    sequence = greedy_sequence(counts, scopes, lot)
    if cost_by(counts, scopes, sequence, "greatest") <= MOST:
        return sequence
    if len(lot) - len(free_first(scopes, lot)) > MOST_LEFT:
        return sequence
    return least_sequence(counts, scopes, lot, "greatest")[1]


def lots_with(place, many):
    """A number that has a bit for each lot of so many things that has the one at a place."""
    bits = (1 << (1 << place)) - 1 << (1 << place)
    width = 2 << place
    while width < 1 << many:
        bits = bits | bits << width
        width = width + width
    return bits
