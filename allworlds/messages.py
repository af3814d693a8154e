"""Messages between the clusters of a tree."""

from allworlds.sums import product_of, summed_to, widened
from allworlds.tables import counts_in, one_table, table_of, table_of_news
from allworlds.trees import children_in, cut_of


def own_table(net, news, tree, homes, cluster):
    """The product of the tables of all things whose home is a cluster, over all its things."""
    things = [thing for thing, home in enumerate(homes) if home == cluster]
    tables = [table_of(net, thing) for thing in things]
    told = [table_of_news(net, news, thing) for thing in things]
    lot = tree[0][cluster]
    return widened(product_of(tables + told), lot, counts_in(net, lot))


def own_tables(net, news, tree, homes):
    """The own tables of all clusters."""
    return tuple([own_table(net, news, tree, homes, cluster) for cluster in range(len(tree[0]))])


def up_message(tree, owns, up, cluster):
    """The message up of a cluster, from its own table and the messages up from those right below it."""
    below = [up[child] for child in children_in(tree, cluster)]
    return summed_to(product_of([owns[cluster]] + below), cut_of(tree, cluster))


def down_message(tree, owns, up, down, cluster):
    """The message down to a cluster, from all that the one above it has from elsewhere."""
    if cluster == 0:
        return one_table()
    above = tree[1][cluster]
    beside = [up[child] for child in children_in(tree, above) if child != cluster]
    return summed_to(product_of([owns[above], down[above]] + beside), cut_of(tree, cluster))


def upward(tree, owns):
    """All messages up."""
    up = {}
    for cluster in reversed(range(len(tree[0]))):
        up[cluster] = up_message(tree, owns, up, cluster)
    return tuple([up[cluster] for cluster in range(len(tree[0]))])


def downward(tree, owns, up):
    """All messages down."""
    down = []
    for cluster in range(len(tree[0])):
        down.append(down_message(tree, owns, up, down, cluster))
    return tuple(down)
