"""Papers: the messages of a tree, and the total, the weights and the shares that they tell."""

from allworlds.growing import tree_of, turned_tree
from allworlds.messages import downward, own_table, own_tables, upward
from allworlds.nets import check_news, counts_of
from allworlds.sequences import greedy_sequence, scopes_in
from allworlds.sums import product_of, shares_table, summed_to, total_of
from allworlds.trees import children_in, homes_of, way_up


class Paper:
    """A paper of news: a tree, the homes of all things, and the messages up and down."""

    def __init__(self, tree, homes, up, down):
        self.tree = tree
        self.homes = homes
        self.up = up
        self.down = down

    def __eq__(self, other):
        if not isinstance(other, Paper):
            return False
        return (self.tree, self.homes, self.up, self.down) == (other.tree, other.homes, other.up, other.down)


def own_tree(net):
    """Some tree of all things in which all families have homes."""
    things = tuple(range(len(net.things)))
    return tree_of(net, greedy_sequence(counts_of(net), scopes_in(net), things))


def paper_with(net, news, tree, homes):
    """The paper of news over a tree with homes."""
    owns = own_tables(net, news, tree, homes)
    up = upward(tree, owns)
    return Paper(tree, homes, up, downward(tree, owns, up))


def paper_of(net, news, tree=None):
    """The paper of any value as news, over a tree or an own one, with the first homes there."""
    check_news(net, news)
    over = own_tree(net) if tree is None else tree
    return paper_with(net, news, over, homes_of(net, over))


def total_in(paper):
    """The total that a paper tells."""
    return total_of(paper.up[0])


def messages_at(paper, cluster):
    """The messages that a cluster gets from its neighbours."""
    return [paper.down[cluster]] + [paper.up[child] for child in children_in(paper.tree, cluster)]


def cluster_weights(net, news, paper, cluster):
    """The table of the weights of a cluster's fillings."""
    own = own_table(net, news, paper.tree, paper.homes, cluster)
    return product_of([own] + messages_at(paper, cluster))


def cut_weights(paper, cluster):
    """The table of the weights of the fillings of a cluster's cut."""
    return product_of((paper.up[cluster], paper.down[cluster]))


def shares_in(weights, thing):
    """The shares of a thing's cases by the weights of a lot that has it."""
    return shares_table(summed_to(weights, (thing,))).entries


def shares_at(net, news, paper, thing):
    """The shares of a thing's cases."""
    return shares_in(cluster_weights(net, news, paper, paper.homes[thing]), thing)


def shares_of(net, news, thing):
    """The shares of a thing's cases by any value as news."""
    return shares_at(net, news, paper_of(net, news), thing)


def shares_of_all(net, news, tree=None):
    """The shares of the cases of all things by any value as news."""
    paper = paper_of(net, news, tree)
    weights = {home: cluster_weights(net, news, paper, home) for home in paper.homes}
    return tuple([shares_in(weights[home], thing) for thing, home in enumerate(paper.homes)])


def turned_paper(paper, cluster):
    """The paper of the same news over the tree in which a cluster comes first."""
    way = way_up(paper.tree, cluster)
    order = way + tuple([other for other in range(len(paper.up)) if other not in way])
    place = {old: new for new, old in enumerate(order)}
    up = {old: paper.up[old] for old in order}
    down = {old: paper.down[old] for old in order}
    # What is now right below a cluster of the way was right above it.
    for below, over in zip(way, way[1:]):
        up[over] = paper.down[below]
        down[over] = paper.up[below]
    # The first cluster has no cut: its messages are the total and 1, whichever it is.
    up[cluster] = paper.up[0]
    down[cluster] = paper.down[0]
    homes = tuple([place[home] for home in paper.homes])
    tree = turned_tree(paper.tree, cluster)
    return Paper(tree, homes, tuple([up[old] for old in order]), tuple([down[old] for old in order]))
