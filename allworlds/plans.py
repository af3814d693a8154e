"""Looks, and plans of looks, that are worth most less what they cost."""

from math import comb

from allworlds.choices import refuse_wide
from allworlds.eliminating import eliminated, tables_by, things_but
from allworlds.errors import InvalidNumber, Refused
from allworlds.fillings import fill_count
from allworlds.kinds import is_below, is_number
from allworlds.looks import fraction_sums, look_sums
from allworlds.nets import counts_of
from allworlds.numbers import divided, greatest_of, is_less, taken, timed, total_of_all
from allworlds.plain import known_total
from allworlds.rows import are_from_zero
from allworlds.sequences import greedy_sequence, scopes_in
from allworlds.sums import at_case, product_of, total_of, widened
from allworlds.tables import Table, counts_in
from allworlds.worlds import MOST

MOST_PLANS = 2000


def check_costs(net, value):
    """Raise InvalidNumber for any value that is no costs of looks at the things of the net."""
    if not isinstance(value, tuple) or len(value) != len(net.things):
        raise InvalidNumber("costs")
    told = tuple([cost for cost in value if cost is not None])
    if not are_from_zero(told, len(told)):
        raise InvalidNumber("costs")


def check_looks(net, costs, most):
    """Raise an error for any values that are no costs, or no number."""
    check_costs(net, costs)
    if not is_number(most):
        raise InvalidNumber("most")


def things_with_costs(costs):
    """The lot of the things that can be looked at."""
    return tuple([thing for thing, cost in enumerate(costs) if cost is not None])


def refuse_looks(counts, most):
    """Raise Refused for too many lots of at most so many things, or too many fillings of one of them."""
    many = min(most, len(counts))
    if sum([comb(len(counts), k) for k in range(many + 1)]) > MOST_PLANS:
        raise Refused("size")
    if fill_count(sorted(counts)[len(counts) - many:]) > MOST:
        raise Refused("size")


def best_looks(net, news, acts, costs, most):
    """The greatest gain of a look at no more than so many things less its costs, and the least lot that has it."""
    check_looks(net, costs, most)
    things = things_with_costs(costs)
    refuse_looks(counts_in(net, things), most)
    total = known_total(fraction_sums(net, tables_by(net, news), ()))
    worths = {lot: divided(worth, total) for lot, worth in look_worths(net, news, acts, things, most)}
    best = ((0, 1), ())
    for lot in sorted(worths):
        gain = taken(worths[lot], worths[()])
        gain = taken(gain, total_of_all([costs[thing] for thing in lot]))
        if is_less(best[0], gain):
            best = (gain, lot)
    return best


def look_worths(net, news, acts, things, most):
    """The pairs of each lot of no more than so many things and the sum of the greatest sums of acts."""
    counts = counts_of(net)
    base = list(tables_by(net, news))
    lists = [less_things(net, base + [act], things_but(net, things)) for act in acts]
    # Lots that begin alike, along a sequence, share what is summed out of the tables of the acts.
    states = [((), lists)]
    for thing in greedy_sequence(counts, scopes_in(net), things):
        further = []
        for lot, left in states:
            further.append((lot, [eliminated(tables, (thing,)) for tables in left]))
            if len(lot) < most:
                further.append((tuple(sorted(lot + (thing,))), left))
        states = further
    return [(lot, greatest_sums(lot, [counts[thing] for thing in lot], left)) for lot, left in states]


def less_things(net, tables, lot):
    """Tables with the things of a lot summed out of their product."""
    scopes = tuple([table.things for table in tables])
    return eliminated(tables, greedy_sequence(counts_of(net), scopes, lot))


def greatest_sums(lot, counts, lists):
    """The sum of the greatest sums of acts over all fillings of a lot."""
    columns = [widened(product_of(tables), lot, tuple(counts)).entries for tables in lists]
    return total_of_all([
        greatest_of([column[number] for column in columns]) for number in range(len(columns[0]))
    ])


def is_plan(net, acts, costs, value):
    """Whether any value is a plan."""
    waiting = [(value, ())]
    while waiting:
        plan, seen = waiting.pop()
        if not isinstance(plan, tuple) or not plan or not isinstance(plan[0], str):
            return False
        if plan[0] == "act":
            if len(plan) != 2 or not is_below(plan[1], len(acts)):
                return False
        elif is_look(net, costs, plan, seen):
            waiting.extend([(below, seen + (plan[1],)) for below in plan[2]])
        else:
            return False
    return True


def is_look(net, costs, plan, seen):
    """Whether a tuple with a word is a look at a thing not seen before, with something for each case."""
    if plan[0] != "look" or len(plan) != 3 or not is_below(plan[1], len(costs)):
        return False
    if costs[plan[1]] is None or plan[1] in seen:
        return False
    return isinstance(plan[2], tuple) and len(plan[2]) == net.things[plan[1]][1]


def things_of_plan(plan):
    """The lot of the things at which a plan looks."""
    things = {}
    waiting = [plan]
    while waiting:
        told = waiting.pop()
        if told[0] == "look":
            things[told[1]] = True
            waiting.extend(told[2])
    return tuple(sorted(things))


def tables_over(net, news, acts, lot):
    """The total, the table of the weights of a lot, and for each act that of the sums of weights times worths.

    All are told times one number above 0.
    """
    total, weights, sums = look_sums(net, news, acts, lot)
    counts = counts_in(net, lot)
    return (total, Table(lot, counts, tuple(weights)), [Table(lot, counts, tuple(column)) for column in sums])


def tables_at(tables, thing, case):
    """Tables with a thing at a case."""
    return [at_case(table, thing, case) for table in tables]


def plan_worth(net, news, acts, costs, plan):
    """The worth of a plan."""
    things = things_of_plan(plan)
    refuse_wide(net, things)
    total, weights, sums = tables_over(net, news, acts, things)
    worths = []
    paid = []
    waiting = [(plan, weights, sums)]
    while waiting:
        told, weights, sums = waiting.pop()
        if told[0] == "act":
            worths.append(total_of(sums[told[1]]))
        else:
            thing = told[1]
            paid.append(timed(costs[thing], total_of(weights)))
            for case, below in enumerate(told[2]):
                waiting.append((below, at_case(weights, thing, case), tables_at(sums, thing, case)))
    return divided(taken(total_of_all(worths), total_of_all(paid)), total)


def refuse_plans(counts, most):
    """Raise Refused for too many ways of looks, or too many fillings."""
    ways = 1
    for _ in range(min(most, len(counts))):
        ways = ways * sum(counts)
    if ways > MOST_PLANS or fill_count(counts) > MOST_PLANS:
        raise Refused("size")


def best_plan(net, news, acts, costs, most):
    """The greatest worth of a plan with no more than so many looks on each way, and some plan that has it."""
    check_looks(net, costs, most)
    things = things_with_costs(costs)
    refuse_plans(counts_in(net, things), most)
    total, weights, sums = tables_over(net, news, acts, things)
    worth, plan = best_below(costs, weights, sums, most)
    return (divided(worth, total), plan)


def best_below(costs, weights, sums, most):
    """The greatest sum of a plan by tables of what is not seen yet, and some plan that has it."""
    totals = [total_of(table) for table in sums]
    best = greatest_of(totals)
    plan = ("act", totals.index(best))
    if most == 0:
        return (best, plan)
    whole = total_of(weights)
    for thing, count in zip(weights.things, weights.counts):
        below = [
            best_below(costs, at_case(weights, thing, case), tables_at(sums, thing, case), most - 1)
            for case in range(count)
        ]
        worth = taken(total_of_all([told for told, _ in below]), timed(costs[thing], whole))
        if is_less(best, worth):
            best = worth
            plan = ("look", thing, tuple([inner for _, inner in below]))
    return (best, plan)
