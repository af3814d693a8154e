"""Windows: the last moments of a chain without end."""

from math import gcd

from allworlds.chains import backward_tops, carried, sign_tops, tops_ahead, whole_rows
from allworlds.errors import InvalidNumber, Refused
from allworlds.kinds import is_below, is_number
from allworlds.numbers import scaled_tops

MOST_KEPT = 60


class Window:
    """A window on the last moments of a chain; it changes."""

    def __init__(self, chain, size):
        if not is_number(size) or not 1 <= size <= MOST_KEPT:
            raise InvalidNumber("size")
        self.chain = chain
        self.size = size
        self._many = 0
        # The kept moments, each with its sign and the forward weights of its cases.
        self._kept = ()
        # For each case, the best course to it: weight, place among these in their order, kept cases.
        self._best = [(1, 0, ())]

    def come(self, sign):
        """Add a moment with the sign that is seen, which may be any value."""
        if sign is not None and not is_below(sign, len(self.chain.shows[0])):
            raise InvalidNumber("sign")
        shown, _ = sign_tops(self.chain, sign)
        ways, _ = whole_rows(self.chain.steps if self._kept else (self.chain.start,))
        weights = carried(ways, self._kept[-1][1] if self._kept else [1])
        tops = lowered([weight * factor for weight, factor in zip(weights, shown)])
        if not any(tops):
            raise Refused("barred")
        self._best = further_best(self._best, ways, shown, self.size)
        self._kept = (self._kept + ((sign, tops),))[-self.size:]
        self._many += 1

    def moments(self):
        """How many moments there have been."""
        return self._many

    def now(self):
        """The shares of the cases at the last moment."""
        return self.ago(0)

    def ago(self, moments):
        """The shares of the cases so many moments before the last one; moments may be any value."""
        self.check_begun()
        if not is_below(moments, len(self._kept)):
            raise InvalidNumber("moments")
        kept = self._kept[len(self._kept) - 1 - moments:]
        behind = backward_tops(self.chain, [sign for sign, _ in kept])[0][0]
        return scaled_tops([weight * factor for weight, factor in zip(kept[0][1], behind)])

    def ahead(self, moments):
        """The shares of the cases so many moments after the last one; moments may be any value."""
        self.check_begun()
        return scaled_tops(tops_ahead(self.chain, self._kept[-1][1], moments))

    def tail(self):
        """The cases of the first best course at the kept moments."""
        self.check_begun()
        return min([(-top, place, cases) for top, place, cases in self._best])[2]

    def check_begun(self):
        """Raise Refused if there has been no moment."""
        if not self._kept:
            raise Refused("moments")


def lowered(tops):
    """Whole numbers divided by what divides all of them."""
    shared = 0
    for top in tops:
        shared = gcd(shared, top)
    return [top // shared for top in tops] if shared else tops


def further_best(best, ways, shown, size):
    """The best courses to each case, from those to the cases one moment before."""
    found = []
    for case, factor in enumerate(shown):
        # Of equal courses that one is first whose course before is first.
        weight, place, cases = min([
            (-top * row[case] * factor, place, cases) for row, (top, place, cases) in zip(ways, best)
        ])
        found.append((place, case, -weight, (cases + (case,))[-size:]))
    order = sorted([(place, case) for place, case, _, _ in found])
    tops = lowered([weight for _, _, weight, _ in found])
    return [(tops[case], order.index((place, case)), cases) for place, case, _, cases in found]
