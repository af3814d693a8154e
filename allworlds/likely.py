"""Rankings: the fillings of a lot one after another, the greatest weights first."""

from allworlds.bestpapers import BestPaper
from allworlds.bounds import bound_at, stages_of, start_of, starts_beside
from allworlds.eliminating import weight_by
from allworlds.errors import Refused
from allworlds.nets import counts_of
from allworlds.numbers import divided
from allworlds.placing import best_messages, comes_before, line_of, mixed_sequence
from allworlds.sequences import greedy_sequence, scopes_in


class Listing:
    """The ranking of a lot, which goes on as it is asked."""

    def __init__(self, net, news, lot, sequence):
        self.net = net
        self.news = news
        self.lot = lot
        self.sequence = sequence
        self._messages = best_messages(net, news, lot, sequence)
        self._stages = stages_of(net, news, sequence, self._messages)
        self._given = []
        # The rims of those given, each with the first of the ranking behind it, in the order of the ranking.
        self._rims = []
        self._add(())

    def _add(self, start):
        """Put a start at its place among the rims, if it has a filling in the ranking."""
        placed = bound_at(counts_of(self.net), self._stages, line_of(self.lot, self.sequence), start)
        if placed is None:
            return
        low, high = 0, len(self._rims)
        while low < high:
            middle = (low + high) // 2
            if comes_before(self._rims[middle][0], placed):
                low = middle + 1
            else:
                high = middle
        self._rims.insert(low, (placed, start))

    def following(self):
        """The next of the ranking, or None."""
        if not self._rims:
            return None
        placed, start = self._rims.pop(0)
        self._given.append(placed)
        line = line_of(self.lot, self.sequence)
        whole = start_of(self.lot, line, placed[1])
        for rim in starts_beside(counts_of(self.net), line, whole, len(start)):
            self._add(rim)
        return placed

    @property
    def ranked(self):
        """Those returned."""
        return tuple(self._given)

    @property
    def waiting(self):
        """For each rim of those returned the first of the ranking with this start."""
        return tuple([placed for placed, _ in self._rims])

    def paper(self):
        """The paper of those returned."""
        return BestPaper(self.lot, self.sequence, self._messages, self.ranked)


def own_listing(net, news, lot, many):
    """A listing of a lot from which so many were asked."""
    listing = Listing(net, news, lot, mixed_sequence(net, lot))
    for _ in range(many):
        if listing.following() is None:
            break
    return listing


def best_paper(net, news, lot, many):
    """Some right paper of the first so many of a ranking."""
    return own_listing(net, news, lot, many).paper()


def total_by_news(net, news):
    """The total, if it is not 0."""
    things = tuple(range(len(net.things)))
    total = weight_by(net, news, None, greedy_sequence(counts_of(net), scopes_in(net), things))
    if total[0] == 0:
        raise Refused("barred")
    return total


def with_share(placed, total):
    """A placed filling with its share in place of the weight."""
    return (divided(placed[0], total), placed[1])


def best_fillings(net, news, lot, many):
    """The first so many of the ranking of a lot, with their shares."""
    total = total_by_news(net, news)
    return tuple([with_share(placed, total) for placed in own_listing(net, news, lot, many).ranked])


def best_worlds(net, news, many):
    """The first so many worlds, with their shares."""
    return best_fillings(net, news, tuple(range(len(net.things))), many)


def best_by_case(net, news, thing):
    """For each case of a thing the first world with it and its share, or None."""
    total = total_by_news(net, news)
    counts = counts_of(net)
    things = tuple(range(len(net.things)))
    others = tuple([other for other in things if other != thing])
    sequence = greedy_sequence(counts, scopes_in(net), others) + (thing,)
    stages = stages_of(net, news, sequence, best_messages(net, news, things, sequence))
    firsts = [bound_at(counts, stages, sequence[::-1], (case,)) for case in range(counts[thing])]
    return tuple([None if placed is None else with_share(placed, total) for placed in firsts])
