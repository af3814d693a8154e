"""Products, sums, cuts and quotients of tables."""

from allworlds.errors import Refused
from allworlds.fillings import fill_count, places_by, steps_by
from allworlds.numbers import ZERO, divided, product_of_all, scaled_to_one, timed, total_of_all
from allworlds.tables import Table


def counts_by_thing(tables):
    """The numbers of cases of all things of some tables, by thing."""
    counts = {}
    for table in tables:
        for thing, count in zip(table.things, table.counts):
            if counts.setdefault(thing, count) != count:
                raise Refused("counts")
    return counts


def spread_entries(table, things, counts):
    """The entries of a table for all fillings of some things, among them its own."""
    places = places_by(things, counts, steps_by(table.things, table.counts))
    return [table.entries[place] for place in places]


def joined_tables(tables, fold):
    """The table of all things of some tables, each entry made by a function from the list of theirs."""
    found = counts_by_thing(tables)
    things = tuple(sorted(found))
    counts = tuple([found[thing] for thing in things])
    columns = [spread_entries(table, things, counts) for table in tables]
    entries = [fold([column[number] for column in columns]) for number in range(fill_count(counts))]
    return Table(things, counts, tuple(entries))


def product_of(tables):
    """The product of some tables."""
    return joined_tables(tables, product_of_all)


def added_tables(tables):
    """The sum of some tables."""
    return joined_tables(tables, total_of_all)


def widened(table, things, counts):
    """The table of a lot of things with the entries of a table of some of them."""
    return Table(things, counts, tuple(spread_entries(table, things, counts)))


def scaled_table(table, factor):
    """The table with each entry times a fraction."""
    return Table(table.things, table.counts, tuple([timed(entry, factor) for entry in table.entries]))


def folded_out(table, things, fold):
    """The table without some things, each entry made by a function from those with the same cases of the others."""
    count = counts_by_thing((table,))
    kept = tuple([thing for thing in table.things if thing not in things])
    gone = tuple([thing for thing in table.things if thing in things])
    counts = tuple([count[thing] for thing in kept])
    # With the things that go behind all others, entries that belong together follow one another.
    ordered = spread_entries(table, kept + gone, counts + tuple([count[thing] for thing in gone]))
    many = fill_count([count[thing] for thing in gone])
    entries = [fold(ordered[start:start + many]) for start in range(0, len(ordered), many)]
    return Table(kept, counts, tuple(entries))


def summed_out(table, things):
    """The table without some things, with the sums over their cases."""
    return folded_out(table, things, total_of_all)


def summed_to(table, things):
    """The table of some things alone, with the sums over the cases of all others."""
    return summed_out(table, tuple([thing for thing in table.things if thing not in things]))


def total_of(table):
    """The sum of all entries."""
    return total_of_all(table.entries)


def at_case(table, thing, case):
    """The table without a thing, with the entries at a case of it."""
    return at_cases(table, {thing: case})


def at_cases(table, cases):
    """The table without the things of a dict, with the entries at their cases there."""
    steps = steps_by(table.things, table.counts)
    kept = [place for place, thing in enumerate(table.things) if thing not in cases]
    things = tuple([table.things[place] for place in kept])
    counts = tuple([table.counts[place] for place in kept])
    first = sum([steps[thing] * case for thing, case in cases.items() if thing in steps])
    places = places_by(things, counts, steps, first)
    return Table(things, counts, tuple([table.entries[place] for place in places]))


def quotient_of(one, other):
    """The first table with each entry divided by that of the other one."""
    if not all([thing in one.things for thing in other.things]):
        raise Refused("things")
    counts_by_thing((one, other))
    divisors = spread_entries(other, one.things, one.counts)
    return Table(one.things, one.counts, tuple([part_of(a, b) for a, b in zip(one.entries, divisors)]))


def part_of(entry, divisor):
    """An entry divided by another one, where 0 by 0 is 0."""
    if entry[0] == 0:
        return ZERO
    if divisor[0] == 0:
        raise Refused("zero")
    return divided(entry, divisor)


def shares_within(table, things):
    """The quotient of a table by its sums over some things."""
    return quotient_of(table, summed_out(table, things))


def shares_table(table):
    """The table with each entry divided by the sum of all."""
    return Table(table.things, table.counts, scaled_to_one(table.entries))
