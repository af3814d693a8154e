"""Greatest and least entries of tables."""

from allworlds.fillings import filling_at
from allworlds.numbers import greatest_of, least_of, order_keys
from allworlds.sums import at_cases, folded_out


def greatest_out(table, things):
    """The table without some things, with the greatest entries over their cases."""
    return folded_out(table, things, greatest_of)


def least_out(table, things):
    """The table without some things, with the least entries over their cases."""
    return folded_out(table, things, least_of)


def greatest_filling(table):
    """The greatest entry, and the first filling that has it."""
    entry = greatest_of(table.entries)
    return (entry, filling_at(table.counts, table.entries.index(entry)))


def least_filling(table):
    """The least entry, and the first filling that has it."""
    entry = least_of(table.entries)
    return (entry, filling_at(table.counts, table.entries.index(entry)))


def behind_greatest(table, things, filling):
    """The first filling of some things that has the greatest entry with a filling of the others."""
    others = [thing for thing in table.things if thing not in things]
    return greatest_filling(at_cases(table, {thing: case for thing, case in zip(others, filling)}))[1]


def ranked_fillings(table):
    """The pairs of all entries and their fillings, the greatest entries first."""
    ranked = sorted([(-key, number) for number, key in enumerate(order_keys(table.entries))])
    return tuple([(table.entries[number], filling_at(table.counts, number)) for _, number in ranked])
