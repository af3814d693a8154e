"""The judge of papers: it takes right ones and no others."""

from allworlds.errors import InvalidPaper
from allworlds.messages import down_message, own_tables, up_message
from allworlds.papers import Paper
from allworlds.tables import is_table
from allworlds.trees import is_home, tree_fault


def first_fault(net, news, value):
    """What is first wrong with any value as a paper of news, or None."""
    fault = form_fault(net, value)
    return message_fault(net, news, value) if fault is None else fault


def form_fault(net, value):
    """What is first wrong with the form of any value as a paper, or None."""
    if not isinstance(value, Paper):
        return ("kind", 0)
    at = tree_fault(net, value.tree)
    if at is not None:
        return ("tree", at)
    at = homes_fault(net, value.tree, value.homes)
    if at is not None:
        return ("homes", at)
    many = len(value.tree[0])
    for word, tables in (("up", value.up), ("down", value.down)):
        at = tables_fault(tables, many)
        if at is not None:
            return (word, at)
    return None


def homes_fault(net, tree, value):
    """The first thing without a right home in any value, -1 if it has not the form, or None."""
    if not isinstance(value, tuple) or len(value) != len(net.things):
        return -1
    for thing, home in enumerate(value):
        if not is_home(net, tree, thing, home):
            return thing
    return None


def tables_fault(value, many):
    """The number of the first item of any value that is no table, -1 if it is no tuple of so many, or None."""
    if not isinstance(value, tuple) or len(value) != many:
        return -1
    for at, item in enumerate(value):
        if not is_table(item):
            return at
    return None


def message_fault(net, news, paper):
    """The first message that is not the one made of what else is in a paper of the right form, or None."""
    owns = own_tables(net, news, paper.tree, paper.homes)
    # Each message is made of those that were looked at before, so what is put together fits.
    for cluster in reversed(range(len(owns))):
        if paper.up[cluster] != up_message(paper.tree, owns, paper.up, cluster):
            return ("up", cluster)
    for cluster in range(len(owns)):
        if paper.down[cluster] != down_message(paper.tree, owns, paper.up, paper.down, cluster):
            return ("down", cluster)
    return None


def is_paper(net, news, value):
    """Whether any value is a paper of news."""
    return first_fault(net, news, value) is None


def check_paper(net, news, value):
    """Raise InvalidPaper for any value that is no paper of news."""
    fault = first_fault(net, news, value)
    if fault is not None:
        raise InvalidPaper(fault)
