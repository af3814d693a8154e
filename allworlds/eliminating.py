"""Weights and shares by elimination: things left out of tables one after another."""

from allworlds.claims import without_not
from allworlds.errors import Refused
from allworlds.extremes import greatest_out
from allworlds.fillings import fillings_of
from allworlds.numbers import divided, taken, total_of_all
from allworlds.sequences import is_sequence
from allworlds.sums import at_cases, product_of, shares_table, summed_out, total_of
from allworlds.tables import claim_table, counts_in, table_of, table_of_news


def eliminated(tables, sequence, greatest=False):
    """The tables that are left after each thing of a sequence has been left out of their product."""
    left = list(tables)
    for thing in sequence:
        made = product_of([table for table in left if thing in table.things])
        message = greatest_out(made, (thing,)) if greatest else summed_out(made, (thing,))
        left = [table for table in left if thing not in table.things] + [message]
    return tuple(left)


def tables_by(net, news):
    """For each thing the table of its family, times its weights in the news."""
    tables = [table_of(net, thing) for thing in range(len(net.things))]
    for thing, _ in news:
        tables[thing] = product_of((tables[thing], table_of_news(net, news, thing)))
    return tuple(tables)


def claim_tables(net, claim):
    """Tables with a product of 1 in the worlds in which a claim holds, 0 in all others."""
    return tuple([claim_table(net, part) for part in parts_by_and(without_not(net, claim))])


def parts_by_and(claim):
    """The parts of a claim that "and" joins, also within these, from left to right."""
    parts = []
    waiting = [claim]
    while waiting:
        part = waiting.pop()
        if part[0] == "and":
            waiting.extend(part[1:][::-1])
        else:
            parts.append(part)
    return parts


def check_sequence(lot, value):
    """Raise Refused for any value that is no sequence of a lot."""
    if not is_sequence(lot, value):
        raise Refused("sequence")


def things_but(net, lot):
    """The lot of all things but those of a lot."""
    return tuple([thing for thing in range(len(net.things)) if thing not in lot])


def weight_by(net, news, claim, sequence, fixed=()):
    """The sum of the weights of the worlds in which a claim holds, or, for None, of all."""
    check_sequence(things_but(net, fixed), sequence)
    return claim_weight(net, news, claim, sequence, fixed)


def claim_weight(net, news, claim, sequence, fixed):
    """The weight of a claim, or, for None, of all worlds, by a sequence that is one."""
    tables = tables_by(net, news)
    if claim is None:
        return weight_of_tables(net, tables, sequence, fixed)
    if without_not(net, claim)[0] != "or":
        return weight_of_tables(net, tables + claim_tables(net, claim), sequence, fixed)
    others = claim_tables(net, without_not(net, claim, turned=True))
    total = weight_of_tables(net, tables, sequence, fixed)
    return taken(total, weight_of_tables(net, tables + others, sequence, fixed))


def weight_of_tables(net, tables, sequence, fixed):
    """The sum of all entries of a product of tables, by a sequence of all things that are not fixed."""
    weights = []
    for filling in fillings_of(counts_in(net, fixed)):
        cases = {thing: case for thing, case in zip(fixed, filling)}
        left = eliminated([at_cases(table, cases) for table in tables], sequence)
        weights.append(total_of(product_of(left)))
    return total_of_all(weights)


def share_by(net, news, claim, sequence):
    """The share of a claim by news, by a sequence of all things."""
    total = weight_by(net, news, None, sequence)
    if total[0] == 0:
        raise Refused("barred")
    return divided(claim_weight(net, news, claim, sequence, ()), total)


def shares_by(net, news, lot, sequence):
    """The table of a lot with the share of each filling, by a sequence of all others."""
    check_sequence(things_but(net, lot), sequence)
    return shares_table(product_of(eliminated(tables_by(net, news), sequence)))


def greatest_weight(net, news, lot, sequence):
    """The greatest weight of a filling of a lot, by a sequence of all things that ends with it."""
    check_sequence(tuple(range(len(net.things))), sequence)
    many = len(sequence) - len(lot)
    check_sequence(lot, sequence[many:])
    left = eliminated(tables_by(net, news), sequence[:many])
    return total_of(product_of(eliminated(left, sequence[many:], True)))
