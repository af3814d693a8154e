"""Hidden chains: cases that follow one another, and signs that they show."""

from allworlds.errors import InvalidNews, InvalidNumber, InvalidTable
from allworlds.kinds import is_below, is_number
from allworlds.nets import Net
from allworlds.numbers import common_bottom, fraction_of, scaled_tops, tops_over
from allworlds.rows import are_rows, is_row

MOMENT_NAMES = "abcdefghijkl"


class Chain:
    """A hidden chain; raises InvalidTable for what is none."""

    def __init__(self, start, steps, shows):
        if not isinstance(start, tuple) or len(start) < 2 or not is_row(start, len(start)):
            raise InvalidTable(0)
        if not are_rows(steps, len(start), len(start)):
            raise InvalidTable(1)
        if not are_sign_rows(shows, len(start)):
            raise InvalidTable(2)
        self.start = start
        self.steps = steps
        self.shows = shows


def are_sign_rows(value, many):
    """Whether any value is so many rows of two or more fractions, as many in each."""
    if not isinstance(value, tuple) or not value or not isinstance(value[0], tuple):
        return False
    return len(value[0]) >= 2 and are_rows(value, many, len(value[0]))


def check_seen(chain, value):
    """Raise InvalidNews for any value that tells no signs of the chain."""
    if not isinstance(value, tuple) or not value:
        raise InvalidNews(-1)
    for moment, sign in enumerate(value):
        if sign is not None and not is_below(sign, len(chain.shows[0])):
            raise InvalidNews(moment)


def chain_net(chain, many):
    """The net of so many moments; many may be any value."""
    if not is_number(many) or not 1 <= many <= len(MOMENT_NAMES):
        raise InvalidNumber("many")
    things = []
    for moment in range(many):
        name = MOMENT_NAMES[moment]
        parents = (2 * moment - 2,) if moment else ()
        rows = chain.steps if moment else (chain.start,)
        things.append(("h" + name, len(chain.start), parents, rows))
        things.append(("s" + name, len(chain.shows[0]), (2 * moment,), chain.shows))
    return Net(tuple(things))


def whole_rows(rows):
    """Rows as whole numbers over one bottom, and this."""
    bottom = common_bottom([fraction for row in rows for fraction in row])
    return ([tops_over(row, bottom) for row in rows], bottom)


def sign_tops(chain, sign):
    """The fractions of a sign by case as whole numbers over one bottom, and this."""
    if sign is None:
        return ([1] * len(chain.start), 1)
    rows, bottom = whole_rows(chain.shows)
    return ([row[sign] for row in rows], bottom)


def carried(rows, tops):
    """Whole weights of the cases, carried over by their rows to what these are for."""
    return [sum([top * row[at] for top, row in zip(tops, rows)]) for at in range(len(rows[0]))]


def forward_tops(chain, seen):
    """For each moment the forward weights as whole numbers over one bottom, and this."""
    steps, step_bottom = whole_rows(chain.steps)
    starts, bottom = whole_rows((chain.start,))
    tops = starts[0]
    found = []
    for sign in seen:
        if found:
            tops = carried(steps, tops)
            bottom = bottom * step_bottom
        shown, below = sign_tops(chain, sign)
        tops = [top * factor for top, factor in zip(tops, shown)]
        bottom = bottom * below
        found.append((tops, bottom))
    return found


def backward_tops(chain, seen):
    """For each moment the backward weights as whole numbers over one bottom, and this."""
    steps, step_bottom = whole_rows(chain.steps)
    tops = [1] * len(chain.start)
    bottom = 1
    found = [(tops, bottom)]
    for sign in reversed(seen[1:]):
        shown, below = sign_tops(chain, sign)
        behind = [top * factor for top, factor in zip(tops, shown)]
        tops = [sum([a * b for a, b in zip(row, behind)]) for row in steps]
        bottom = bottom * below * step_bottom
        found.append((tops, bottom))
    return found[::-1]


def as_fractions(found):
    """Whole numbers over one bottom, moment by moment, as fractions."""
    return tuple([tuple([fraction_of(top, bottom) for top in tops]) for tops, bottom in found])


def forward_weights(chain, seen):
    """For each moment and case the sum of the shares of the courses that end with it."""
    return as_fractions(forward_tops(chain, seen))


def backward_weights(chain, seen):
    """For each moment and case the sum over all that can follow it."""
    return as_fractions(backward_tops(chain, seen))


def chain_total(chain, seen):
    """The sum of the shares of all courses."""
    tops, bottom = forward_tops(chain, seen)[-1]
    return fraction_of(sum(tops), bottom)


def filtered_shares(chain, seen):
    """The shares of the cases at the last moment."""
    return scaled_tops(forward_tops(chain, seen)[-1][0])


def smoothed_shares(chain, seen, moment):
    """The shares of the cases at a moment, which may be any value."""
    if not is_below(moment, len(seen)):
        raise InvalidNumber("moment")
    ahead = forward_tops(chain, seen)[moment][0]
    behind = backward_tops(chain, seen)[moment][0]
    return scaled_tops([one * other for one, other in zip(ahead, behind)])


def tops_ahead(chain, tops, ahead):
    """Whole weights of the cases so many moments after those of now; ahead may be any value."""
    if not is_number(ahead):
        raise InvalidNumber("ahead")
    steps, _ = whole_rows(chain.steps)
    for _ in range(ahead):
        tops = carried(steps, tops)
    return tops


def foretold_tops(chain, seen, ahead):
    """The weights of the cases so many moments later, as whole numbers; ahead may be any value."""
    return tops_ahead(chain, forward_tops(chain, seen)[-1][0], ahead)


def foretold_shares(chain, seen, ahead):
    """The shares of the cases so many moments after the last one."""
    return scaled_tops(foretold_tops(chain, seen, ahead))


def foretold_signs(chain, seen, ahead):
    """The shares of the signs that the case would show so many moments after the last one."""
    tops = foretold_tops(chain, seen, ahead)
    shows, _ = whole_rows(chain.shows)
    return scaled_tops(carried(shows, tops))
