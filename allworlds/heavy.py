"""Heavy worlds: those with great shares, as few as have so much, and the place of one."""

from allworlds.errors import Refused
from allworlds.likely import Listing, total_by_news, with_share
from allworlds.numbers import ONE, ZERO, added, is_less, timed
from allworlds.placing import mixed_sequence
from allworlds.worlds import news_weight


def world_listing(net, news):
    """A listing of all worlds."""
    things = tuple(range(len(net.things)))
    return Listing(net, news, things, mixed_sequence(net, things))


def refuse_above(many, most):
    """Raise Refused for more than may be."""
    if many > most:
        raise Refused("size")


def worlds_from(net, news, bar, most):
    """The worlds with a share of at least a bar."""
    total = total_by_news(net, news)
    least = timed(bar, total)
    listing = world_listing(net, news)
    found = []
    placed = listing.following()
    while placed is not None and not is_less(placed[0], least):
        found.append(with_share(placed, total))
        refuse_above(len(found), most)
        placed = listing.following()
    return tuple(found)


def fewest_worlds(net, news, share, most):
    """The shortest beginning of the ranking that has in sum at least a share."""
    if is_less(ONE, share):
        raise Refused("share")
    total = total_by_news(net, news)
    due = timed(share, total)
    listing = world_listing(net, news)
    found = []
    whole = ZERO
    while is_less(whole, due):
        placed = listing.following()
        whole = added(whole, placed[0])
        found.append(with_share(placed, total))
        refuse_above(len(found), most)
    return tuple(found)


def place_of_world(net, news, world, most):
    """How many worlds come before a world."""
    if news_weight(net, news, world)[0] == 0:
        raise Refused("barred")
    listing = world_listing(net, news)
    many = 0
    while listing.following()[1] != world:
        many += 1
        refuse_above(many, most)
    return many
