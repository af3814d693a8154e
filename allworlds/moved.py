"""Entries of rows moved, and how weights and shares go as one moves."""

from allworlds.claims import without_not
from allworlds.eliminating import claim_tables, eliminated, tables_by, things_but
from allworlds.errors import InvalidNumber
from allworlds.fillings import filling_number, fillings_of
from allworlds.kinds import is_below
from allworlds.nets import counts_of, family_of, parent_counts, row_for, with_rows
from allworlds.numbers import ONE, ZERO, added, divided, taken, timed, total_of_all
from allworlds.rows import is_bar
from allworlds.sequences import greedy_sequence
from allworlds.sums import added_tables, product_of, scaled_table, widened
from allworlds.tables import counts_in, table_of_news


def is_spot(net, value):
    """Whether any value is a spot of the net."""
    if not isinstance(value, tuple) or len(value) != 3 or not is_below(value[0], len(net.things)):
        return False
    thing, filling, case = value
    counts = parent_counts(net, thing)
    if not isinstance(filling, tuple) or len(filling) != len(counts) or not is_below(case, net.things[thing][1]):
        return False
    return all([is_below(item, count) for item, count in zip(filling, counts)])


def spots_of(net):
    """The lot of all spots."""
    return tuple([spot for thing in range(len(net.things)) for spot in spots_in(net, thing)])


def spots_in(net, thing):
    """The lot of a thing's spots."""
    fillings = fillings_of(parent_counts(net, thing))
    return tuple([(thing, filling, case) for filling in fillings for case in range(net.things[thing][1])])


def entry_at_spot(net, spot):
    """The entry at a spot."""
    thing, filling, case = spot
    return row_for(net, thing, filling)[case]


def parts_beside(row, case):
    """The parts that the other cases have of what a row has beside a case, equal ones if this is nothing."""
    rest = taken(ONE, row[case])
    if rest[0] == 0:
        return tuple([ZERO if k == case else (1, len(row) - 1) for k in range(len(row))])
    return tuple([ZERO if k == case else divided(entry, rest) for k, entry in enumerate(row)])


def moved_row(row, case, x):
    """A row in which the entry of a case is moved."""
    rest = taken(ONE, x)
    return tuple([x if k == case else timed(part, rest) for k, part in enumerate(parts_beside(row, case))])


def moved_net(net, spot, x):
    """The net in which the entry at a spot is moved; x may be any value."""
    if not is_bar(x):
        raise InvalidNumber("entry")
    thing, filling, case = spot
    number = filling_number(parent_counts(net, thing), filling)
    rows = net.things[thing][3]
    return with_rows(net, thing, rows[:number] + (moved_row(rows[number], case, x),) + rows[number + 1:])


def family_sums(net, tables, thing):
    """The table of a thing's family with the sums, over all others, of the products of tables."""
    family = family_of(net, thing)
    scopes = tuple([table.things for table in tables])
    left = eliminated(tables, greedy_sequence(counts_of(net), scopes, things_but(net, family)))
    return widened(product_of(left), family, counts_in(net, family))


def beside_table(net, news, claim, thing):
    """The table of a thing's family with the weights of a claim, or for None of all, without its own fraction."""
    tables = list(tables_by(net, news))
    tables[thing] = table_of_news(net, news, thing)
    if claim is None:
        return family_sums(net, tables, thing)
    if without_not(net, claim)[0] != "or":
        return family_sums(net, tables + list(claim_tables(net, claim)), thing)
    others = claim_tables(net, without_not(net, claim, turned=True))
    less = scaled_table(family_sums(net, tables + list(others), thing), (-1, 1))
    return added_tables((family_sums(net, tables, thing), less))


def row_lines(net, beside, thing):
    """For each row of a thing the sum of the weights for all others, and what the row has beside it."""
    count = net.things[thing][1]
    pieces = [beside.entries[start:start + count] for start in range(0, len(beside.entries), count)]
    sums = [
        total_of_all([timed(entry, weight) for entry, weight in zip(row, piece)])
        for row, piece in zip(net.things[thing][3], pieces)
    ]
    total = total_of_all(sums)
    return [(taken(total, part), piece) for part, piece in zip(sums, pieces)]


def line_at(net, lines, spot):
    """The pair (a, b) of a spot, from the lines of the rows of its thing."""
    thing, filling, case = spot
    other, piece = lines[filling_number(parent_counts(net, thing), filling)]
    parts = parts_beside(row_for(net, thing, filling), case)
    rest = total_of_all([timed(part, weight) for part, weight in zip(parts, piece)])
    return (added(other, rest), taken(piece[case], rest))


def weight_line(net, news, claim, spot):
    """The pair (a, b) by which the weight of a claim, or for None of all worlds, is a + b x."""
    lines = row_lines(net, beside_table(net, news, claim, spot[0]), spot[0])
    return line_at(net, lines, spot)


def both_lines(net, news, claim, thing):
    """The lines of the rows of a thing, those of a claim and those of all worlds."""
    holding = row_lines(net, beside_table(net, news, claim, thing), thing)
    return (holding, row_lines(net, beside_table(net, news, None, thing), thing))


def moved_share(net, news, claim, spot):
    """The tuple (a, b, c, d) by which the share of a claim is (a + b x) / (c + d x)."""
    holding, whole = both_lines(net, news, claim, spot[0])
    return line_at(net, holding, spot) + line_at(net, whole, spot)


def lines_of_thing(net, news, claim, thing):
    """The pairs of each spot of a thing and the tuple (a, b, c, d) for it."""
    holding, whole = both_lines(net, news, claim, thing)
    return tuple([
        (spot, line_at(net, holding, spot) + line_at(net, whole, spot)) for spot in spots_in(net, thing)
    ])
