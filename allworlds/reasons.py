"""Answers to questions, and least reasons for them with papers."""

from allworlds.asked import Asked, easy_sequence, things_untold
from allworlds.claims import check_claim
from allworlds.errors import InvalidNews, InvalidNumber, Refused
from allworlds.kinds import has_each_once, is_below, is_lot, is_lot_below
from allworlds.nets import counts_of
from allworlds.numbers import is_fraction, is_less
from allworlds.parts import (
    first_parts, is_lower, is_negative, last_margin, left_out_of, message_of, things_of_message,
)
from allworlds.rows import are_from_zero, is_bar
from allworlds.sequences import lot_size

MOST_FINDINGS = 10


def check_question(net, value):
    """Raise an error for any value that is no question about the net."""
    if not isinstance(value, tuple) or len(value) != 3:
        raise Refused("question")
    claim, bar, findings = value
    check_claim(net, claim)
    if not is_bar(bar):
        raise InvalidNumber("bar")
    if not isinstance(findings, tuple):
        raise InvalidNews(-1)
    last = -1
    for at, item in enumerate(findings):
        if not is_found(net, item) or item[0] <= last:
            raise InvalidNews(at)
        last = item[0]


def is_found(net, value):
    """Whether any value is a pair of a thing and a case of it."""
    if not isinstance(value, tuple) or len(value) != 2:
        return False
    return is_below(value[0], len(net.things)) and is_below(value[1], net.things[value[0]][1])


def answer_of(net, question):
    """Whether the share of the claim is at least the bar."""
    return Asked(net, question).answer


def cases_at(asked, filling):
    """The cases of a filling of the told things, by thing."""
    return {thing: case for thing, case in zip(asked.told, filling)}


def margin_of(net, question, filling):
    """The margin of a filling of the told things."""
    asked = Asked(net, question)
    return asked.margin_at(cases_at(asked, filling))


def is_turning(net, question, filling):
    """Whether a filling of the told things turns the answer."""
    return is_negative(margin_of(net, question, filling))


def worst_filling(net, question, lot):
    """The least margin with the cases found at a lot, and the first filling that has it."""
    return worst_of(Asked(net, question), lot)


def worst_of(asked, lot):
    """The least margin with the cases found at a lot, and the first filling that has it, of what is asked."""
    fixed = asked.found_at(lot)
    least = asked.margin_at(fixed)
    for thing in asked.told:
        if thing not in fixed:
            fixed[thing] = 0
            while asked.margin_at(fixed) != least:
                fixed[thing] += 1
    return (least, tuple([fixed[thing] for thing in asked.told]))


def is_reason(net, question, value):
    """Whether any value is a reason."""
    asked = Asked(net, question)
    return is_told_lot(asked, value) and asked.has_reason(value)


def is_told_lot(asked, value):
    """Whether any value is a lot of told things."""
    return is_lot(value) and all([thing in asked.found for thing in value])


def check_reason(asked, value):
    """Raise Refused for any value that is no reason."""
    if not is_told_lot(asked, value) or not asked.has_reason(value):
        raise Refused("reason")


def smaller_reason(net, question, lot):
    """A reason within a lot, which may be any value, of which nothing can be left out."""
    asked = Asked(net, question)
    check_reason(asked, lot)
    return asked.reason_within(lot)


def least_reasons(net, question):
    """The lot of all reasons of which no part is one."""
    return few_asked(net, question).least_reasons()


def few_asked(net, question):
    """What is asked by a question with few findings; raises Refused for too many."""
    asked = Asked(net, question)
    if len(asked.told) > MOST_FINDINGS:
        raise Refused("size")
    return asked


class Reason:
    """A paper of a reason: its lot, a sequence of all other things, and their messages."""

    def __init__(self, lot, sequence, messages):
        self.lot = lot
        self.sequence = sequence
        self.messages = messages


def reason_paper(net, question, lot):
    """Some right paper of a reason, which may be any value."""
    asked = Asked(net, question)
    check_reason(asked, lot)
    parts = parts_for(net, question, asked, lot)
    left = tuple([thing for thing in asked.told if thing not in lot])
    sequence = easy_sequence(asked.counts, [part[1] for part in parts], things_untold(net, asked.found))
    sequence = sequence + tuple([thing for thing in asked.sequence if thing in left])
    messages = []
    for thing in sequence:
        parts = left_out_of(asked.counts, parts, thing, thing in asked.found)
        messages.append(parts[-1])
    return Reason(lot, sequence, tuple(messages))


def parts_for(net, question, asked, lot):
    """The parts of a question at first, with the things of a lot as found."""
    claim, bar, _ = question
    return first_parts(net, claim, bar, asked.answer, asked.found_at(lot))


def is_reason_paper(net, question, value):
    """Whether any value is a right paper of a reason."""
    asked = Asked(net, question)
    if not isinstance(value, Reason) or not is_told_lot(asked, value.lot):
        return False
    others = tuple([thing for thing in range(len(net.things)) if thing not in value.lot])
    if not has_each_once(value.sequence, others):
        return False
    if not isinstance(value.messages, tuple) or len(value.messages) != len(others):
        return False
    parts = parts_for(net, question, asked, value.lot)
    for thing, message in zip(value.sequence, value.messages):
        if not has_message_form(net, parts, thing, message):
            return False
        if not is_bound(message, message_of(asked.counts, parts, thing, thing in asked.found)):
            return False
        parts = [part for part in parts if thing not in part[1]] + [message]
    return not is_negative(last_margin(parts))


def has_message_form(net, parts, thing, value):
    """Whether any value has the kind, the things and the kinds of entries of a thing's message."""
    if not isinstance(value, tuple) or len(value) < 3:
        return False
    is_margin = any([part[0] == "margin" and thing in part[1] for part in parts])
    word = "margin" if is_margin else "plain"
    if not isinstance(value[0], str) or value[0] != word or len(value) != (3 if is_margin else 4):
        return False
    due = things_of_message(parts, thing)
    if not is_lot_below(value[1], len(net.things)) or value[1] != due:
        return False
    many = lot_size(counts_of(net), due)
    if not is_margin:
        return are_from_zero(value[2], many) and are_from_zero(value[3], many)
    if not isinstance(value[2], tuple) or len(value[2]) != many:
        return False
    return all([is_margin_pair(item) for item in value[2]])


def is_margin_pair(value):
    """Whether any value is a pair of fractions."""
    if not isinstance(value, tuple) or len(value) != 2:
        return False
    return is_fraction(value[0]) and is_fraction(value[1])


def is_bound(message, due):
    """Whether a message of the right form bounds the one that is due."""
    if due[0] == "margin":
        return not any([is_lower(one, other) for one, other in zip(due[2], message[2])])
    lows = [is_less(one, other) for one, other in zip(due[2], message[2])]
    highs = [is_less(other, one) for one, other in zip(due[3], message[3])]
    return not any(lows) and not any(highs)
