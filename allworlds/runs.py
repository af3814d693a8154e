"""Runs: commands done one after another, their results, and papers of these."""

from allworlds.claims import things_of_claim
from allworlds.errors import Refused
from allworlds.kept import Kept
from allworlds.likely import best_paper, best_worlds
from allworlds.nets import counts_of, finding, names_of
from allworlds.numbers import is_less
from allworlds.printer import found_case, show_fraction, show_fractions, show_news, show_number
from allworlds.reasons import reason_paper, smaller_reason
from allworlds.scripts import read_script
from allworlds.sequences import lot_size
from allworlds.turns import cheapest_turn, turn_at, turn_paper
from allworlds.worlds import MOST

DEEDS = ("put", "take", "rows", "back")
ABOUT_CLAIMS = ("share", "ask", "why", "turn")
ABOUT_FINDINGS = ("why", "turn")


def deed_result(kept, command):
    """The result of a deed, which is done if it is not refused."""
    word = command[0]
    try:
        if word == "put":
            kept.put(command[1], command[2])
        elif word == "take":
            kept.take(command[1])
        elif word == "rows":
            kept.change_rows(command[1], command[2])
        else:
            kept.back()
    except Refused as why:
        return ("refused", why.word)
    return ("ok",)


def early_refusal(net, news, command):
    """The word by which a command that asks is refused whatever the total is, or None."""
    word = command[0]
    if word in ABOUT_CLAIMS and lot_size(counts_of(net), things_of_claim(command[-1])) > MOST:
        return "size"
    if word in ABOUT_FINDINGS and None in [found_case(weights) for _, weights in news]:
        return "weights"
    return None


def question_of(news, command):
    """The question of a command about an answer, by news that are those of findings."""
    findings = tuple([(thing, found_case(weights)) for thing, weights in news])
    return (command[2], command[1], findings)


def told_lot(question):
    """The lot of the told things of a question."""
    return tuple([thing for thing, _ in question[2]])


def changed_pairs(question, filling):
    """The pairs of each told thing and its other case, where a filling has one."""
    return tuple([(thing, other) for (thing, case), other in zip(question[2], filling) if case != other])


def asked_result(kept, command):
    """The result of a command that asks."""
    net, news = kept.present_net(), kept.present_news()
    word = command[0]
    refusal = early_refusal(net, news, command)
    if refusal is not None:
        return ("refused", refusal)
    total = kept.total()
    if word == "total":
        return ("total", total)
    if total[0] == 0:
        return ("refused", "barred")
    if word == "shares":
        return ("shares", kept.shares(command[1]))
    if word == "share":
        return ("share", kept.share(command[1]))
    if word == "ask":
        return ("answer", not is_less(kept.share(command[2]), command[1]))
    if word == "best":
        return ("worlds", best_worlds(net, news, command[1]))
    question = question_of(news, command)
    return reason_result(net, question) if word == "why" else turn_result(net, question)


def reason_result(net, question):
    """The result that tells a reason of which nothing can be left out."""
    return ("reason", smaller_reason(net, question, told_lot(question)))


def turn_result(net, question):
    """The result that tells the fewest changed findings that turn an answer."""
    cheapest = cheapest_turn(net, question, (1,) * len(question[2]))
    return ("none",) if cheapest is None else ("turn", changed_pairs(question, cheapest[1]))


def done_result(kept, command):
    """The result of any command."""
    return deed_result(kept, command) if command[0] in DEEDS else asked_result(kept, command)


def run_commands(net, commands):
    """The results of commands done one after another."""
    kept = Kept(net)
    return tuple([done_result(kept, command) for command in commands])


def paper_for(kept, command, result):
    """The paper of the result of a command, or None."""
    word = result[0]
    if command[0] in DEEDS or word == "refused" and result[1] != "barred":
        return None
    net, news = kept.present_net(), kept.present_news()
    if word == "worlds":
        return (kept.paper(), best_paper(net, news, tuple(range(len(net.things))), command[1]))
    if word == "reason":
        return reason_with_turns(net, question_of(news, command), result[1])
    if word == "turn" or word == "none":
        question = question_of(news, command)
        return turn_paper(net, question, (1,) * len(question[2]))
    return kept.paper()


def reason_with_turns(net, question, lot):
    """The paper of a reason, and for each thing of it a filling that turns the answer and changes no other of these."""
    turns = []
    for thing in lot:
        free = [told for told in told_lot(question) if told == thing or told not in lot]
        turns.append(turn_at(net, question, tuple(free)))
    return (reason_paper(net, question, lot), tuple(turns))


def run_with_papers(net, commands):
    """For each command a pair of its result and a paper."""
    kept = Kept(net)
    pairs = []
    for command in commands:
        result = done_result(kept, command)
        pairs.append((result, paper_for(kept, command, result)))
    return tuple(pairs)


def run_script(net, text):
    """The lines for the commands of a script, which may be any value."""
    commands = read_script(net, text)
    return tuple([show_result(net, result) for result in run_commands(net, commands)])


def show_result(net, result):
    """The line of a result."""
    return " ".join([result[0]] + [text for text in [told_in(net, result)] if text != ""])


def told_in(net, result):
    """The text of what is behind the word of a result."""
    word = result[0]
    if len(result) == 1:
        return ""
    told = result[1]
    if word == "total" or word == "share":
        return show_fraction(told)
    if word == "shares":
        return show_fractions(told)
    if word == "answer":
        return "yes" if told else "no"
    if word == "reason":
        return " ".join([names_of(net)[thing] for thing in told])
    if word == "turn":
        return show_news(net, tuple([finding(net, thing, case) for thing, case in told]))
    if word == "worlds":
        return "; ".join([show_world(share, world) for share, world in told])
    return told


def show_world(share, world):
    """The text of a share and a world, case by case."""
    return " ".join([show_fraction(share)] + [show_number(case) for case in world])
