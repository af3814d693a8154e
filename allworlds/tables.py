"""Tables: a fraction for each filling of some things."""

from allworlds.claims import holding_bits, things_of_claim
from allworlds.errors import InvalidTable, Refused
from allworlds.fillings import at_places, fill_count, filling_number
from allworlds.kinds import is_integer, is_lot
from allworlds.nets import counts_of, family_of, weights_in
from allworlds.numbers import ONE, ZERO, is_fraction
from allworlds.worlds import MOST


class Table:
    """A table: a fraction for each filling of a lot of things."""

    def __init__(self, things, counts, entries):
        self.things = things
        self.counts = counts
        self.entries = entries

    def __eq__(self, other):
        if not isinstance(other, Table):
            return False
        return self.things == other.things and self.counts == other.counts and self.entries == other.entries


def are_counts(value, many):
    """Whether any value is a tuple of so many numbers from 1 on."""
    if not isinstance(value, tuple) or len(value) != many:
        return False
    return all([is_integer(item) and item > 0 for item in value])


def are_fractions(value, many):
    """Whether any value is a tuple of so many fractions."""
    if not isinstance(value, tuple) or len(value) != many:
        return False
    return all([is_fraction(item) for item in value])


def table_fault(value):
    """What is first wrong with any value as a table, or None."""
    if not isinstance(value, Table):
        return "kind"
    if not is_lot(value.things):
        return "things"
    if not are_counts(value.counts, len(value.things)):
        return "counts"
    if not are_fractions(value.entries, fill_count(value.counts)):
        return "entries"
    return None


def is_table(value):
    """Whether any value is a table."""
    return table_fault(value) is None


def check_table(value):
    """Raise InvalidTable for any value that is no table."""
    fault = table_fault(value)
    if fault is not None:
        raise InvalidTable(fault)


def one_table():
    """The table of no thing with the entry 1."""
    return Table((), (), (ONE,))


def counts_in(net, things):
    """The numbers of cases of some things."""
    return at_places(counts_of(net), things)


def table_of(net, thing):
    """The table of a thing's family."""
    # The thing is the last of its family, so the rows follow one another.
    family = family_of(net, thing)
    entries = [fraction for row in net.things[thing][3] for fraction in row]
    return Table(family, counts_in(net, family), tuple(entries))


def table_of_news(net, news, thing):
    """The table of the weights that news have for a thing."""
    return Table((thing,), counts_in(net, (thing,)), weights_in(net, news, thing))


def claim_table(net, claim):
    """The table of a claim's things with 1 where it holds and 0 elsewhere."""
    things = things_of_claim(claim)
    counts = counts_in(net, things)
    many = fill_count(counts)
    if many > MOST:
        raise Refused("size")
    bits = holding_bits(claim, things, counts)
    entries = [ONE if bits >> number & 1 else ZERO for number in range(many)]
    return Table(things, counts, tuple(entries))


def entry_at(table, filling):
    """The entry of a table for a filling of its things."""
    return table.entries[filling_number(table.counts, filling)]


def entry_in(table, world):
    """The entry of a table for the cases of its things in a world."""
    return entry_at(table, at_places(world, table.things))
