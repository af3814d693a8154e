"""Questions looked into: what the told things alone make of them."""

from allworlds.errors import Refused
from allworlds.nets import counts_of
from allworlds.parts import (
    cheapest_left, cost_part, first_parts, last_cost, last_margin, left_out_of, part_with, turn_part, turned_margin,
)
from allworlds.sequences import cost_by, greedy_sequence
from allworlds.widths import MOST_LEFT, free_first, least_sequence
from allworlds.worlds import MOST


class Asked:
    """A question of a net with its answer; raises Refused if the total is 0."""

    def __init__(self, net, question):
        claim, bar, findings = question
        self.counts = counts_of(net)
        self.found = {thing: case for thing, case in findings}
        self.told = tuple([thing for thing, _ in findings])
        parts = first_parts(net, claim, bar, True, {})
        for thing in easy_sequence(self.counts, parts, things_untold(net, self.found)):
            parts = left_out_of(self.counts, parts, thing, False)
        self.parts = parts
        self.sequence = easy_sequence(self.counts, parts, self.told)
        margin = self.margin_at(self.found)
        if margin[1][0] == 0:
            raise Refused("barred")
        self.answer = margin[0][0] >= 0
        if not self.answer:
            self.parts = [turned_part(part) for part in parts]
        self.turning = [turn_part(part) for part in self.parts]

    def margin_at(self, fixed):
        """The least margin of all fillings of the told things with the cases of a dict for some of them."""
        parts = [part_with(self.counts, part, fixed) for part in self.parts]
        if len(fixed) < len(self.told):
            for thing in self.sequence:
                if thing not in fixed:
                    parts = left_out_of(self.counts, parts, thing, True)
        return last_margin(parts)

    def least_cost(self, costs, fixed):
        """The least cost of a filling with the cases of a dict that turns the answer, or None if none does.

        A change at a thing costs what it costs in `costs`, or nothing if it is not there.
        """
        parts = self.turning + [
            cost_part(thing, self.counts[thing], self.found[thing], cost) for thing, cost in costs.items()
        ]
        parts = [part_with(self.counts, part, fixed) for part in parts]
        for thing in self.sequence:
            if thing not in fixed:
                parts = cheapest_left(self.counts, parts, thing)
        return last_cost(parts)

    def found_at(self, lot):
        """The cases found at the things of a lot, by thing."""
        return {thing: self.found[thing] for thing in lot}

    def has_reason(self, lot):
        """Whether a lot of told things is a reason."""
        return self.least_cost({}, self.found_at(lot)) is None

    def reason_within(self, lot):
        """The reason within a reason that is left if each thing that can be is left out, ascending."""
        left = lot
        for thing in lot:
            less = tuple([other for other in left if other != thing])
            if self.has_reason(less):
                left = less
        return left


def things_untold(net, found):
    """The lot of the things that are not told."""
    return tuple([thing for thing in range(len(net.things)) if thing not in found])


def easy_sequence(counts, parts, lot):
    """A sequence in which the things of a lot are left out with few fillings."""
    scopes = tuple([part[1] for part in parts])
    sequence = greedy_sequence(counts, scopes, lot)
    if cost_by(counts, scopes, sequence, "greatest") <= MOST:
        return sequence
    if len(lot) - len(free_first(scopes, lot)) > MOST_LEFT:
        return sequence
    return least_sequence(counts, scopes, lot, "greatest")[1]


def turned_part(part):
    """A margin part with other signs, or a plain one as it is."""
    if part[0] == "plain":
        return part
    return part[:2] + (tuple([turned_margin(margin) for margin in part[2]]),)
