"""Pieces between told things, and the things that a question about a lot needs."""

from allworlds.arrows import fixed_thing, heard_news, told_pairs
from allworlds.errors import Refused
from allworlds.eliminating import eliminated, tables_by
from allworlds.nets import Net, counts_of, family_of, older_lot
from allworlds.numbers import product_of_all
from allworlds.sequences import greedy_sequence
from allworlds.sums import at_cases, product_of, total_of


def told_cases(net, news):
    """The told cases, by thing."""
    return {thing: case for thing, case in told_pairs(net, news)}


def untold_scopes(net, told, things):
    """For each of some things the lot of the things of its family that are not told."""
    return [tuple([one for one in family_of(net, thing) if one not in told]) for thing in things]


def share_one(one, other):
    """Whether two lots have a common thing."""
    return any([thing in other for thing in one])


def joined_pieces(scopes):
    """The lots of things to which lines lead by scopes, ascending."""
    pieces = []
    for scope in scopes:
        if scope:
            touched = [piece for piece in pieces if share_one(piece, scope)]
            apart = [piece for piece in pieces if not share_one(piece, scope)]
            whole = [thing for piece in touched + [scope] for thing in piece]
            pieces = apart + [tuple(sorted(set(whole)))]
    return tuple(sorted(pieces))


def pieces_of(net, news):
    """The pieces, ascending."""
    return joined_pieces(untold_scopes(net, told_cases(net, news), tuple(range(len(net.things)))))


def piece_totals(net, news):
    """The total of each piece, and last the product of what has no thing in a piece."""
    told = told_cases(net, news)
    tables = [at_cases(table, told) for table in tables_by(net, news)]
    totals = []
    for piece in pieces_of(net, news):
        own = [table for table in tables if share_one(table.things, piece)]
        scopes = tuple([table.things for table in own])
        left = eliminated(own, greedy_sequence(counts_of(net), scopes, piece))
        totals.append(total_of(product_of(left)))
    rest = [table.entries[0] for table in tables if table.things == ()]
    return tuple(totals) + (product_of_all(rest),)


def needed_things(net, lot, news):
    """The lot of the things that a question about the shares of a lot needs."""
    told = told_cases(net, news)
    heard = tuple([thing for thing, _ in heard_news(net, news)])
    older = older_lot(net, lot + heard)
    scopes = untold_scopes(net, told, older)
    asked = [piece for piece in joined_pieces(scopes) if share_one(piece, lot)]
    return tuple([thing for thing, scope in zip(older, scopes) if any([share_one(scope, piece) for piece in asked])])


def needed_net(net, lot, news):
    """The net of the needed things without told parents, their numbers, and the heard news for them."""
    needed = needed_things(net, lot, news)
    if not needed:
        raise Refused("empty")
    told = told_cases(net, news)
    new = {old: number for number, old in enumerate(needed)}
    things = []
    for old in needed:
        # Each parent that is not told is in the piece of the question, and so needed.
        name, count, parents, rows = fixed_thing(net, old, told)
        things.append((name, count, tuple([new[parent] for parent in parents]), rows))
    heard = tuple([(new[thing], weights) for thing, weights in heard_news(net, news) if thing in new])
    return (Net(tuple(things)), needed, heard)
