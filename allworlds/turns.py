"""Changes of findings that turn an answer, and the cheapest ones with papers."""

from allworlds.asked import Asked
from allworlds.errors import InvalidNumber
from allworlds.kinds import is_below, is_number
from allworlds.parts import is_negative
from allworlds.reasons import cases_at, few_asked, is_told_lot, worst_of


def changes_in(question, filling):
    """The lot of the told things that have another case in a filling than the one found."""
    return tuple([thing for (thing, case), other in zip(question[2], filling) if case != other])


def single_turns(net, question):
    """The pairs of a told thing and another case of it that turns the answer alone."""
    asked = Asked(net, question)
    pairs = [(thing, case) for thing in asked.told for case in range(asked.counts[thing])]
    return tuple([pair for pair in pairs if is_single_turn(asked, pair)])


def is_single_turn(asked, pair):
    """Whether a pair of a told thing and a case turns the answer alone."""
    cases = asked.found_at(asked.told)
    cases[pair[0]] = pair[1]
    # As it was found, the margin is not below 0.
    return is_negative(asked.margin_at(cases))


def told_but(asked, lot):
    """The lot of the told things that are not in a lot."""
    return tuple([thing for thing in asked.told if thing not in lot])


def is_turning_lot(net, question, value):
    """Whether any value is a turning lot."""
    asked = Asked(net, question)
    return is_told_lot(asked, value) and not asked.has_reason(told_but(asked, value))


def turn_at(net, question, lot):
    """Some filling that turns the answer with changes at a lot alone, or None."""
    asked = Asked(net, question)
    return turn_within(asked, lot)


def turn_within(asked, lot):
    """Some filling that turns what is asked with changes at a lot alone, or None."""
    rest = told_but(asked, lot)
    return None if asked.has_reason(rest) else worst_of(asked, rest)[1]


def least_turns(net, question):
    """The lot of all turning lots of which no part is one."""
    return few_asked(net, question).least_turned()


def check_costs_of(asked, value):
    """Raise InvalidNumber for any value that is no tuple with a number for each told thing."""
    if not isinstance(value, tuple) or len(value) != len(asked.told) or not all([is_number(cost) for cost in value]):
        raise InvalidNumber("costs")


def costs_by_thing(asked, costs):
    """The costs of the told things, by thing."""
    return {thing: cost for thing, cost in zip(asked.told, costs)}


def cost_of(costs, lot):
    """What the changes at a lot cost."""
    return sum([costs[thing] for thing in lot])


def cheapest_turn(net, question, costs):
    """The cost and the filling of some cheapest turn, or None; costs may be any value."""
    asked = Asked(net, question)
    check_costs_of(asked, costs)
    return cheapest_of(asked, costs_by_thing(asked, costs))


def cheapest_of(asked, costs):
    """The cost and the filling of some cheapest turn of what is asked, or None."""
    least = asked.least_cost(costs, {})
    if least is None:
        return None
    fixed = {}
    for thing in asked.told:
        fixed[thing] = 0
        while asked.least_cost(costs, fixed) != least:
            fixed[thing] += 1
    return (least, tuple([fixed[thing] for thing in asked.told]))


def reason_beside(asked, lot, reasons):
    """A reason that has no thing of a lot, from those met before if there is one; it is added to these."""
    for reason in reasons:
        if not any([thing in lot for thing in reason]):
            return reason
    reasons.append(asked.reason_within(told_but(asked, lot)))
    return reasons[-1]


def stand_count(net, question):
    """The greatest number of changes of which no so many turn the answer, or None if none do at all."""
    asked = Asked(net, question)
    least = asked.least_cost({thing: 1 for thing in asked.told}, {})
    return None if least is None else least - 1


class TurnPaper:
    """A paper of a cheapest turn: its cost and filling, and a tree of reasons."""

    def __init__(self, cost, filling, tree):
        self.cost = cost
        self.filling = filling
        self.tree = tree


def turn_paper(net, question, costs):
    """Some right paper of a cheapest turn; costs may be any value."""
    asked = Asked(net, question)
    check_costs_of(asked, costs)
    known = costs_by_thing(asked, costs)
    cheapest = cheapest_of(asked, known)
    cost, filling = (None, None) if cheapest is None else cheapest
    return TurnPaper(cost, filling, tree_beside(asked, known, cost, (), [], {}))


def tree_beside(asked, costs, cost, lot, reasons, made):
    """Some right tree for a lot; the trees made are kept by their lots."""
    if lot not in made:
        if cost is not None and cost_of(costs, lot) >= cost:
            made[lot] = ("dear",)
        else:
            reason = reason_beside(asked, lot, reasons)
            longer = [tuple(sorted(lot + (thing,))) for thing in reason]
            branches = [tree_beside(asked, costs, cost, item, reasons, made) for item in longer]
            made[lot] = ("reason", reason, tuple(branches))
    return made[lot]


def is_turn_paper(net, question, costs, value):
    """Whether any value is a right paper of a cheapest turn; costs may be any value."""
    asked = Asked(net, question)
    check_costs_of(asked, costs)
    if not isinstance(value, TurnPaper):
        return False
    known = costs_by_thing(asked, costs)
    if value.cost is not None or value.filling is not None:
        if not is_turn(asked, known, question, value.cost, value.filling):
            return False
    return is_right_tree(asked, known, value.cost, value.tree)


def is_turn(asked, costs, question, cost, filling):
    """Whether any values are the cost and a filling that turns the answer."""
    if not isinstance(filling, tuple) or len(filling) != len(asked.told):
        return False
    if not all([is_below(case, asked.counts[thing]) for case, thing in zip(filling, asked.told)]):
        return False
    if not is_number(cost) or cost != cost_of(costs, changes_in(question, filling)):
        return False
    return is_negative(asked.margin_at(cases_at(asked, filling)))


def is_right_tree(asked, costs, cost, value):
    """Whether any value is a right tree for the empty lot."""
    known = {}
    waiting = [(value, ())]
    while waiting:
        tree, lot = waiting.pop()
        if not isinstance(tree, tuple) or not tree or not isinstance(tree[0], str):
            return False
        if tree[0] == "dear":
            if len(tree) != 1 or cost is None or cost_of(costs, lot) < cost:
                return False
        elif not is_branching(asked, tree, lot, known):
            return False
        else:
            waiting.extend([(below, lot + (thing,)) for thing, below in zip(tree[1], tree[2])])
    return True


def is_branching(asked, tree, lot, known):
    """Whether a tuple with a word tells a reason beside a lot and a branch for each thing of it."""
    if tree[0] != "reason" or len(tree) != 3 or not is_told_lot(asked, tree[1]):
        return False
    if not isinstance(tree[2], tuple) or len(tree[2]) != len(tree[1]):
        return False
    if any([thing in lot for thing in tree[1]]):
        return False
    if tree[1] not in known:
        known[tree[1]] = asked.has_reason(tree[1])
    return known[tree[1]]
