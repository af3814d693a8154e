"""How long answers stand as an entry moves, and how the share of a claim goes."""

from allworlds.errors import Refused
from allworlds.moved import entry_at_spot, lines_of_thing, moved_share
from allworlds.numbers import (
    ONE, ZERO, added, divided, fraction_of, greatest_of, is_less, least_of, order_keys, taken, timed,
)


def at_entry(one, other, x):
    """The value `one + other x`."""
    return added(one, timed(other, x))


def is_between(x):
    """Whether a fraction is one from 0 to 1."""
    return x[0] >= 0 and not is_less(ONE, x)


def has_worlds(line, x):
    """Whether worlds are left for an entry."""
    return at_entry(line[2], line[3], x)[0] != 0


def check_worlds(line, x):
    """Raise Refused if no worlds are left for an entry."""
    if not has_worlds(line, x):
        raise Refused("barred")


def share_on(line, x):
    """The share for an entry with which worlds are left."""
    return divided(at_entry(line[0], line[1], x), at_entry(line[2], line[3], x))


def share_at_entry(net, news, claim, spot, x):
    """The share of a claim if the entry at a spot is moved to a fraction from 0 to 1."""
    line = moved_share(net, news, claim, spot)
    check_worlds(line, x)
    return share_on(line, x)


def line_over(line, bar):
    """The weight of a claim less a bar times the total, as a pair (p, q) of p + q x."""
    a, b, c, d = line
    return (taken(a, timed(bar, c)), taken(b, timed(bar, d)))


def line_of_now(net, news, claim, spot):
    """The line of a spot and its entry, if worlds are left for the net as it is."""
    line = moved_share(net, news, claim, spot)
    now = entry_at_spot(net, spot)
    check_worlds(line, now)
    return (line, now)


def standing_stretch(net, news, claim, bar, spot):
    """The entries between which the answer is that of now, and whether each of both ends belongs to them."""
    line, now = line_of_now(net, news, claim, spot)
    p, q = line_over(line, bar)
    answer = at_entry(p, q, now)[0] >= 0
    low, low_in, high, high_in = ZERO, True, ONE, True
    if q[0] != 0:
        turn = divided(negative(p), q)
        # The answer is yes at the turn itself, above it if q is above 0, otherwise below it.
        if (q[0] > 0) == answer:
            if not is_less(turn, low):
                low, low_in = turn, answer
        elif not is_less(high, turn):
            high, high_in = turn, answer
    return (low, low_in and has_worlds(line, low), high, high_in and has_worlds(line, high))


def negative(fraction):
    """A fraction with the other sign."""
    return fraction_of(-fraction[0], fraction[1])


def nearest_move(net, news, claim, bar, spot):
    """The entry nearest to that of now at which, or behind which, the answer turns, or None."""
    line, now = line_of_now(net, news, claim, spot)
    return move_on(line, now, bar)


def move_on(line, now, bar):
    """The nearest entry at which, or behind which, the answer on a line turns, or None."""
    p, q = line_over(line, bar)
    if q[0] == 0:
        return None
    turn = divided(negative(p), q)
    if not is_between(turn):
        return None
    if at_entry(p, q, now)[0] < 0:
        return (turn, True) if has_worlds(line, turn) else None
    # Behind the turn the answer is no; there are entries there if it is not the end.
    return None if turn == (ZERO if q[0] > 0 else ONE) else (turn, False)


def distance(one, other):
    """How far apart two fractions are."""
    top, bottom = taken(one, other)
    return (abs(top), bottom)


def nearest_turn(net, news, claim, bar):
    """The nearest move of all spots, with its distance and its spot, or None."""
    found = None
    for spot, line, now in lines_of_all(net, news, claim):
        move = move_on(line, now, bar)
        if move is not None:
            far = distance(move[0], now)
            if found is None or is_less(far, found[0]):
                found = (far, move[1], spot, move[0])
    return found


def lines_of_all(net, news, claim):
    """All spots, ascending, with their lines and entries, if worlds are left for the net as it is."""
    found = []
    for thing in range(len(net.things)):
        for spot, line in lines_of_thing(net, news, claim, thing):
            now = entry_at_spot(net, spot)
            check_worlds(line, now)
            found.append((spot, line, now))
    return found


def shares_at_ends(line):
    """The shares for those of the entries 0 and 1 with which worlds are left."""
    shares = [share_on(line, x) for x in (ZERO, ONE) if has_worlds(line, x)]
    if not shares:
        raise Refused("barred")
    return shares


def share_range(net, news, claim, spot):
    """The least and the greatest share of a claim as the entry at a spot moves."""
    shares = shares_at_ends(moved_share(net, news, claim, spot))
    return (least_of(shares), greatest_of(shares))


def entry_for_share(net, news, claim, share, spot):
    """The only entry that gives a claim a share, or that all do, or that none does."""
    line = moved_share(net, news, claim, spot)
    if line[2][0] == 0 and line[3][0] == 0:
        raise Refused("barred")
    p, q = line_over(line, share)
    if q[0] == 0:
        return ("all",) if p[0] == 0 else ("none",)
    x = divided(negative(p), q)
    return ("one", x) if is_between(x) and has_worlds(line, x) else ("none",)


def slope_on(line, now):
    """The slope of the share on a line at an entry."""
    a, b, c, d = line
    total = at_entry(c, d, now)
    return divided(taken(timed(b, c), timed(a, d)), timed(total, total))


def slope_of_share(net, news, claim, spot):
    """The slope of the share of a claim at the entry of now."""
    line, now = line_of_now(net, news, claim, spot)
    return slope_on(line, now)


def steepest_spots(net, news, claim, many):
    """The first so many spots with their slopes, those with slopes of the greatest sizes first."""
    found = [(slope_on(line, now), spot) for spot, line, now in lines_of_all(net, news, claim)]
    sizes = order_keys([(abs(top), bottom) for (top, bottom), _ in found])
    ranked = sorted([(-size, number) for number, size in enumerate(sizes)])
    return tuple([found[number] for _, number in ranked[:many]])
