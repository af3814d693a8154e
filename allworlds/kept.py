"""A net and news that are kept up, with the messages that were made of them."""

from allworlds.claims import check_claim
from allworlds.errors import InvalidNews, Refused
from allworlds.kinds import is_below
from allworlds.messages import own_table
from allworlds.nets import with_rows
from allworlds.numbers import divided
from allworlds.papers import Paper, own_tree, shares_in
from allworlds.readings import share_in, total_by
from allworlds.routes import neighbours_in, steps_from, steps_into, steps_to
from allworlds.rows import are_weights
from allworlds.sums import product_of, summed_to, total_of
from allworlds.tables import claim_table, one_table
from allworlds.trees import holder_of, homes_of


class Kept:
    """A net with news that come, change and are taken back; messages are made only where it is needed."""

    def __init__(self, net, tree=None):
        self.net = net
        self.tree = own_tree(net) if tree is None else tree
        self.homes = homes_of(net, self.tree)
        self._now = net
        self._news = {}
        # For each deed that stands, what was there before: the net, the news, and what was kept.
        self._deeds = []
        self._before = []
        self._owns = {}
        # For each step the message that is kept, and what it was made of, or None.
        self._kept = {}
        self._many = 0

    def present_net(self):
        """The net behind the deeds."""
        return self._now

    def present_news(self):
        """The news behind the deeds."""
        return tuple([(thing, self._news[thing]) for thing in sorted(self._news)])

    def deeds(self):
        """The deeds that stand."""
        return tuple(self._deeds)

    def made(self):
        """How many messages were made."""
        return self._many

    def _check_thing(self, thing):
        """Raise Refused for any value that is no number of a thing."""
        if not is_below(thing, len(self.net.things)):
            raise Refused("thing")

    def _change(self, deed, net, news):
        """Do a deed that leads to a net and news, and note what was there before it."""
        steps = steps_from(self.tree, self.homes[deed[1]])
        known = {step: self._kept.get(step) for step in steps}
        self._before.append((self._now, self._news, known))
        self._deeds.append(deed)
        self._now = net
        self._news = news
        self._forget(deed[1])

    def _forget(self, thing):
        """Forget the own table of the home of a thing."""
        if self.homes[thing] in self._owns:
            del self._owns[self.homes[thing]]

    def put(self, thing, weights):
        """Give a thing weights; both may be any values."""
        self._check_thing(thing)
        if not are_weights(weights, self.net.things[thing][1]):
            raise InvalidNews(thing)
        news = {told: self._news[told] for told in self._news}
        news[thing] = weights
        self._change(("put", thing, weights), self._now, news)

    def take(self, thing):
        """Leave a thing, which may be any value, without weights."""
        self._check_thing(thing)
        if thing not in self._news:
            raise Refused("none")
        news = {told: self._news[told] for told in self._news if told != thing}
        self._change(("take", thing), self._now, news)

    def change_rows(self, thing, rows):
        """Give a thing other rows; both may be any values."""
        self._check_thing(thing)
        self._change(("rows", thing, rows), with_rows(self._now, thing, rows), self._news)

    def back(self):
        """Take back the last deed that stands."""
        if not self._deeds:
            raise Refused("first")
        thing = self._deeds.pop()[1]
        self._now, self._news, known = self._before.pop()
        self._forget(thing)
        for step, told in known.items():
            self._kept[step] = told

    def _own(self, cluster):
        """The own table of a cluster by the present net and news."""
        if cluster not in self._owns:
            self._owns[cluster] = own_table(self._now, self.present_news(), self.tree, self.homes, cluster)
        return self._owns[cluster]

    def _look(self, steps):
        """Look at steps: make those messages that are not kept as they are now."""
        for step in steps:
            made_of = [self._own(step[0])] + [self._kept[into][0] for into in steps_into(self.tree, step)]
            kept = self._kept.get(step)
            if kept is None or kept[1] != made_of:
                shared = [thing for thing in self.tree[0][step[0]] if thing in self.tree[0][step[1]]]
                self._kept[step] = (summed_to(product_of(made_of), shared), made_of)
                self._many += 1

    def _weights(self, cluster):
        """The weights of the fillings of a cluster, with a look at all steps to it."""
        self._look(steps_to(self.tree, cluster))
        near = [self._kept[(other, cluster)][0] for other in neighbours_in(self.tree, cluster)]
        return product_of([self._own(cluster)] + near)

    def total(self):
        """The total."""
        return total_of(self._weights(0))

    def shares(self, thing):
        """The shares of the cases of a thing, which may be any value."""
        self._check_thing(thing)
        return shares_in(self._weights(self.homes[thing]), thing)

    def share(self, claim):
        """The share of a claim, which may be any value."""
        check_claim(self._now, claim)
        table = claim_table(self._now, claim)
        holder = holder_of(self.tree, table.things)
        if holder is None:
            return share_in(self._now, self.present_news(), self.paper(), claim)
        weights = self._weights(holder)
        total = total_of(weights)
        if total[0] == 0:
            raise Refused("barred")
        return divided(total_by(summed_to(weights, table.things), table), total)

    def paper(self):
        """The paper of the present net and news."""
        self._look(steps_to(self.tree, 0) + steps_from(self.tree, 0))
        up = [summed_to(self._weights(0), ())]
        down = [one_table()]
        for cluster, above in enumerate(self.tree[1]):
            if cluster > 0:
                up.append(self._kept[(cluster, above)][0])
                down.append(self._kept[(above, cluster)][0])
        return Paper(self.tree, self.homes, tuple(up), tuple(down))
