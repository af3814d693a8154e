"""The judge of runs, and statements that are so or not."""

from allworlds.bestpapers import is_best_paper
from allworlds.errors import NetError, Refused
from allworlds.judge import is_paper
from allworlds.kept import Kept
from allworlds.kinds import is_below, is_integer
from allworlds.nets import Net, check_news
from allworlds.numbers import divided, is_less
from allworlds.papers import shares_at, total_in
from allworlds.readings import share_in
from allworlds.reasons import check_question, is_reason_paper, is_turning
from allworlds.runs import (
    ABOUT_FINDINGS, DEEDS, changed_pairs, deed_result, early_refusal, question_of, told_lot,
)
from allworlds.scripts import is_command
from allworlds.tables import counts_in
from allworlds.turns import changes_in, is_turn_paper

# How many items a statement with each word has.
ITEMS = {"paper": 4, "worlds": 5, "reason": 4, "turn": 5, "answer": 6, "run": 4}
# What is told of each command that asks for more than the total, if that is 0.
BARRED = ("refused", "barred")


def is_same(value, due):
    """Whether any value is a due one, of the same kinds; True is not 1."""
    if isinstance(due, tuple):
        if not isinstance(value, tuple) or len(value) != len(due):
            return False
        return all([is_same(item, other) for item, other in zip(value, due)])
    if due is None:
        return value is None
    if isinstance(due, bool):
        return isinstance(value, bool) and value == due
    if isinstance(due, str):
        return isinstance(value, str) and value == due
    return is_integer(value) and value == due


def run_fault(net, commands, answers):
    """The number of the first of any answers that is not right for its command, lacks or is too much, or None."""
    if not isinstance(answers, tuple):
        return 0
    kept = Kept(net)
    for at, command in enumerate(commands):
        if at >= len(answers) or not is_pair_for(kept, command, answers[at]):
            return at
    return None if len(answers) == len(commands) else len(commands)


def is_pair_for(kept, command, value):
    """Whether any value is a right pair for a command; a deed is done."""
    if command[0] in DEEDS:
        return is_same(value, (deed_result(kept, command), None))
    if not isinstance(value, tuple) or len(value) != 2:
        return False
    return is_shown(kept.present_net(), kept.present_news(), command, value[0], value[1])


def is_shown(net, news, command, result, paper):
    """Whether any values are a right result and paper for a command that asks."""
    refusal = early_refusal(net, news, command)
    if refusal is not None:
        return paper is None and is_same(result, ("refused", refusal))
    word = command[0]
    if word != "total" and is_same(result, BARRED):
        return is_paper(net, news, paper) and total_in(paper)[0] == 0
    if word == "best":
        return are_worlds_shown(net, news, command[1], result, paper)
    if word in ABOUT_FINDINGS:
        return is_answer_shown(net, word, question_of(news, command), result, paper)
    return is_paper(net, news, paper) and is_same(result, told_by_paper(net, news, command, paper))


def told_by_paper(net, news, command, paper):
    """The result of a command about the total or shares that a right paper of news shows."""
    word = command[0]
    total = total_in(paper)
    if word == "total":
        return ("total", total)
    if total[0] == 0:
        return BARRED
    if word == "shares":
        return ("shares", shares_at(net, news, paper, command[1]))
    if word == "share":
        return ("share", share_in(net, news, paper, command[1]))
    return ("answer", not is_less(share_in(net, news, paper, command[2]), command[1]))


def are_worlds_shown(net, news, many, result, value):
    """Whether any values are the first worlds and a tuple of both papers of them."""
    if not isinstance(value, tuple) or len(value) != 2:
        return False
    paper, best = value
    if not is_paper(net, news, paper) or not is_best_paper(net, news, many, best):
        return False
    total = total_in(paper)
    if total[0] == 0 or best.lot != tuple(range(len(net.things))):
        return False
    worlds = [(divided(weight, total), world) for weight, world in best.listing]
    return is_same(result, ("worlds", tuple(worlds)))


def is_answer_shown(net, word, question, result, value):
    """Whether any values are a reason, or what turns an answer, and the papers of it."""
    try:
        return is_reason_shown(net, question, result, value) if word == "why" else is_turn_shown(
            net, question, result, value)
    except Refused:
        # There is no answer if the total is 0.
        return False


def is_reason_shown(net, question, result, value):
    """Whether any values are a reason, and a tuple of its paper and of fillings that turn the answer."""
    if not isinstance(value, tuple) or len(value) != 2 or not is_reason_paper(net, question, value[0]):
        return False
    lot = value[0].lot
    return is_same(result, ("reason", lot)) and are_turns(net, question, lot, value[1])


def are_turns(net, question, lot, value):
    """Whether any value has for each thing of a lot a filling that turns the answer and changes no other of them."""
    if not isinstance(value, tuple) or len(value) != len(lot):
        return False
    return all([is_turn_beside(net, question, lot, thing, filling) for thing, filling in zip(lot, value)])


def is_turn_beside(net, question, lot, thing, value):
    """Whether any value is a filling that turns the answer and changes no other thing of a lot than this one."""
    counts = counts_in(net, told_lot(question))
    if not isinstance(value, tuple) or len(value) != len(counts):
        return False
    if not all([is_below(case, count) for case, count in zip(value, counts)]):
        return False
    if any([other in lot and other != thing for other in changes_in(question, value)]):
        return False
    return is_turning(net, question, value)


def is_turn_shown(net, question, result, value):
    """Whether any values are the fewest changed findings that turn the answer, and a paper of them."""
    if not is_turn_paper(net, question, (1,) * len(question[2]), value):
        return False
    filling = value.filling
    due = ("none",) if filling is None else ("turn", changed_pairs(question, filling))
    return is_same(result, due)


def is_so(value):
    """Whether any value is a statement about a net, and what it says is so."""
    if not isinstance(value, tuple) or not value or not isinstance(value[0], str):
        return False
    if len(value) != ITEMS.get(value[0], 0) or not isinstance(value[1], Net):
        return False
    try:
        return is_held(value[0], value[1], value[2], value[3:])
    except NetError:
        # News, questions and costs must be right ones, and questions not barred.
        return False


def is_held(word, net, first, rest):
    """Whether what a statement with a word says is so; raises an error for wrong news, questions and costs."""
    if word == "run":
        return are_commands(net, first) and run_fault(net, first, rest[0]) is None
    if word == "reason" or word == "turn":
        check_question(net, first)
        if word == "reason":
            return is_reason_paper(net, first, rest[0])
        return is_turn_paper(net, first, rest[0], rest[1])
    check_news(net, first)
    if word == "paper":
        return is_paper(net, first, rest[0])
    if word == "worlds":
        return is_integer(rest[0]) and rest[0] > 0 and is_best_paper(net, first, rest[0], rest[1])
    command, result, paper = rest
    return is_command(net, command) and command[0] not in DEEDS and is_shown(net, first, command, result, paper)


def are_commands(net, value):
    """Whether any value is a tuple of commands."""
    return isinstance(value, tuple) and all([is_command(net, command) for command in value])


def not_so(values):
    """The lot of the numbers of those values that are not so."""
    return tuple([number for number, value in enumerate(values) if not is_so(value)])
