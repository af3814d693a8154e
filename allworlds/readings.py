"""What papers tell of lots and claims, and how the total goes with single tables."""

from allworlds.claims import check_claim
from allworlds.errors import Refused
from allworlds.messages import own_table
from allworlds.nets import family_of
from allworlds.numbers import divided
from allworlds.papers import cluster_weights, messages_at, total_in
from allworlds.sums import product_of, shares_table, summed_to, total_of, widened
from allworlds.tables import claim_table, counts_in, table_of, table_of_news
from allworlds.trees import children_in, cluster_way, cut_of, holder_of


def lot_weights(net, news, paper, lot):
    """The table of the weights of the fillings of a lot."""
    holder = holder_of(paper.tree, lot)
    if holder is not None:
        return summed_to(cluster_weights(net, news, paper, holder), lot)
    made = {}
    joining = clusters_joining(paper, lot)
    # Clusters on no way between homes of the lot count by their messages alone.
    for cluster in reversed(joining):
        below = [made.get(child, paper.up[child]) for child in children_in(paper.tree, cluster)]
        own = own_table(net, news, paper.tree, paper.homes, cluster)
        if cluster == joining[0]:
            return summed_to(product_of([own, paper.down[cluster]] + below), lot)
        made[cluster] = summed_to(product_of([own] + below), cut_of(paper.tree, cluster) + lot)


def clusters_joining(paper, lot):
    """The lot of the clusters on the ways between the homes of a lot; the first is above all others."""
    homes = [paper.homes[thing] for thing in lot]
    return sorted(set([number for home in homes for number in cluster_way(paper.tree, homes[0], home)]))


def lot_shares(net, news, paper, lot):
    """The table of the shares of the fillings of a lot."""
    return shares_table(lot_weights(net, news, paper, lot))


def share_in(net, news, paper, claim):
    """The share of a claim, which may be any value."""
    check_claim(net, claim)
    table = claim_table(net, claim)
    total = total_in(paper)
    if total[0] == 0:
        raise Refused("barred")
    weights = lot_weights(net, news, paper, table.things)
    return divided(total_by(weights, table), total)


def slopes_of(net, news, paper, thing):
    """The table of a thing's family with the sums of weights without the factor of its own table."""
    return summed_to(weights_beside(net, news, paper, thing, table_of(net, thing)), family_of(net, thing))


def news_slopes(net, news, paper, thing):
    """The table of a thing with the sums of weights without the factor of its news."""
    return summed_to(weights_beside(net, news, paper, thing, table_of_news(net, news, thing)), (thing,))


def weights_beside(net, news, paper, thing, gone):
    """The weights of the fillings of a thing's home without the factor of one of its two tables."""
    cluster = paper.homes[thing]
    tables = []
    for other, home in enumerate(paper.homes):
        if home == cluster:
            tables.extend([table_of(net, other), table_of_news(net, news, other)])
    # Equal tables are exchangeable, so any one of them may go.
    tables.remove(gone)
    lot = paper.tree[0][cluster]
    own = widened(product_of(tables), lot, counts_in(net, lot))
    return product_of([own] + messages_at(paper, cluster))


def total_by(slopes, table):
    """The sum of the products of the entries of two tables."""
    return total_of(product_of((slopes, table)))
