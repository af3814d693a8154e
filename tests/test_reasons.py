"""Points 53 to 58: questions, margins, reasons and their papers."""

import unittest
from fractions import Fraction
from itertools import product

from allworlds.errors import InvalidClaim, InvalidNews, InvalidNumber, Refused
from allworlds.nets import Net
from allworlds.reasons import (
    Reason, answer_of, check_question, is_reason, is_reason_paper, is_turning, least_reasons, margin_of, reason_paper,
    smaller_reason, worst_filling,
)
from tests.drawn import NO_INTEGERS, NO_TUPLES, Odd, draw_net, drawn, nest, pair_of, plain
from tests.questions import (
    PlainParts, as_entries, as_message, draw_asked, draw_question, fillings, found_filling, least_of_lots, lots_of,
    plain_answer, plain_is_paper, plain_margins, plain_reasons, turning_fillings,
)

HALF = ((1, 2), (1, 2))
HUM = Net((("oil", 2, (), (((2, 7), (5, 7)),)), ("hum", 2, (0,), (((7, 8), (1, 8)), ((1, 6), (5, 6))))))
QUESTION = (("is", 0, (0,)), (1, 2), ((1, 0),))
SURE = Net((("a", 2, (), (((1, 1), (0, 1)),)), ("b", 2, (0,), (HALF, HALF))))
BARRED = (("is", 1, (0,)), (1, 2), ((0, 1),))
ZERO = (0, 0)


def votes(many, half=HALF, rows=(((3, 4), (1, 4)), ((1, 4), (3, 4)))):
    """A thing and so many others that each tell of it."""
    return Net((("it", 2, (), (half,)),) + tuple(("abcdefghijklmnopqrstuvwx"[at], 2, (0,), rows) for at in range(many)))


def chain_of(many):
    """Things of which each is the only parent of the next one."""
    rows = (((4, 5), (1, 5)), ((1, 3), (2, 3)))
    names = "abcdefghijklmnopqrstuvwx"
    return Net(tuple((names[at], 2, (at - 1,) if at else (), rows if at else rows[:1]) for at in range(many)))


class QuestionCase(unittest.TestCase):
    """What all tests of questions need."""

    def refused(self, word, told, *values):
        with self.assertRaises(Refused) as caught:
            told(*values)
        self.assertEqual(caught.exception.word, word)

    def pair(self, margin):
        self.assertIs(type(margin), tuple)
        self.assertEqual(len(margin), 2)
        return plain(margin[0]), plain(margin[1])


class TestQuestions(QuestionCase):
    def test_right(self):
        for bar in ((0, 1), (1, 1), (1, 3)):
            for findings in ((), ((0, 1),), ((0, 0), (1, 1)), ((0, 1), (1, 0))):
                self.assertIsNone(check_question(HUM, (("is", 0, ()), bar, findings)))
        self.assertIsNone(check_question(net=SURE, value=BARRED))

    def test_no_question(self):
        for value in NO_TUPLES + ((), QUESTION[:2], QUESTION + ((),), list(QUESTION), nest(100000)):
            self.refused("question", check_question, HUM, value)

    def test_claims(self):
        for claim, at in ((None, 0), (Odd(), 0), (("is", 2, ()), 0), (("not", ("is", 0, (2,))), 1), (nest(100000), 0),
                          (("and", QUESTION[0], ("is", True, ())), 2)):
            for rest in (QUESTION[1:], (None, None), (Odd(), Odd())):
                with self.assertRaises(InvalidClaim) as caught:
                    check_question(HUM, (claim,) + rest)
                self.assertEqual(caught.exception.at, at)

    def test_bars(self):
        for bar in NO_TUPLES + ((), (2, 1), (-1, 2), (2, 2), (1, 0), (1, 2, 3), (True, 1), (3, 2), nest(100000), (Odd(), 2)):
            for findings in (QUESTION[2], None, Odd()):
                with self.assertRaises(InvalidNumber) as caught:
                    check_question(HUM, (QUESTION[0], bar, findings))
                self.assertEqual(caught.exception.word, "bar")

    def test_findings(self):
        for findings in NO_TUPLES:
            self.news(-1, findings)
        for item in NO_TUPLES + NO_INTEGERS + ((0,), (0, 0, 0), (2, 0), (-1, 0), (0, 2), (0, -1), nest(100000), [0, 0]):
            self.news(0, (item,))
            self.news(0, (item, (1, 0)))
            self.news(1, ((0, 0), item))
        for item in NO_INTEGERS + (Odd(),):
            self.news(0, ((item, 0),))
            self.news(1, ((0, 1), (1, item)))
        self.news(1, ((0, 0), (0, 1)))
        self.news(1, ((1, 0), (0, 0), None))
        self.news(1, ((1, 0), (1, 1), None))
        self.news(1, ((1, 0), (0, 1)))

    def news(self, at, findings):
        with self.assertRaises(InvalidNews) as caught:
            check_question(HUM, (QUESTION[0], QUESTION[1], findings))
        self.assertEqual(caught.exception.at, at)

    def test_barred(self):
        paper = Reason((), (1,), ())
        for told, values in ((answer_of, ()), (margin_of, ((0,),)), (is_turning, ((0,),)), (worst_filling, ((),)),
                             (is_reason, ((),)), (is_reason, (None,)), (smaller_reason, ((0,),)), (smaller_reason, (None,)),
                             (least_reasons, ()), (reason_paper, ((0,),)), (reason_paper, (None,)), (is_reason_paper, (paper,)),
                             (is_reason_paper, (None,))):
            self.refused("barred", told, SURE, BARRED, *values)
        net = Net(SURE.things + tuple(("cdefghijklm"[at], 2, (), (HALF,)) for at in range(10)))
        many = (BARRED[0], BARRED[1], ((0, 1),) + tuple((at, 0) for at in range(2, 12)))
        self.refused("barred", least_reasons, net, many)


class TestMargins(QuestionCase):
    def test_example(self):
        self.assertEqual((answer_of(HUM, QUESTION), margin_of(HUM, QUESTION, (1,)), is_turning(HUM, QUESTION, (1,))),
                         (True, ((-47, 168), (53, 84)), True))
        self.assertEqual(least_reasons(HUM, QUESTION), ((1,),))
        self.assertEqual(worst_filling(HUM, QUESTION, ()), (((-47, 168), (53, 84)), (1,)))

    def test_names_of_parameters(self):
        self.assertIs(answer_of(net=HUM, question=QUESTION), True)
        self.assertEqual(margin_of(net=HUM, question=QUESTION, filling=(1,))[0], (-47, 168))
        self.assertIs(is_turning(net=HUM, question=QUESTION, filling=(0,)), False)
        self.assertEqual(worst_filling(net=HUM, question=QUESTION, lot=(1,))[1], (0,))
        self.assertIs(is_reason(net=HUM, question=QUESTION, value=(1,)), True)
        self.assertEqual(smaller_reason(net=HUM, question=QUESTION, lot=(1,)), (1,))
        self.assertEqual(least_reasons(net=HUM, question=QUESTION), ((1,),))
        paper = reason_paper(net=HUM, question=QUESTION, lot=(1,))
        self.assertIs(is_reason_paper(net=HUM, question=QUESTION, value=paper), True)

    def test_bars(self):
        share = Fraction(2 * 7, 7 * 8) / (Fraction(2 * 7, 7 * 8) + Fraction(5, 7 * 6))
        for bar, told in ((share, True), (share + Fraction(1, 10 ** 6), False), (Fraction(0), True), (Fraction(1), False)):
            self.assertIs(answer_of(HUM, (QUESTION[0], pair_of(bar), QUESTION[2])), told)
        self.assertIs(answer_of(SURE, (("is", 0, (0,)), (1, 1), ())), True)
        self.assertIs(answer_of(SURE, (("is", 0, ()), (0, 1), ((1, 0),))), True)
        self.assertIs(answer_of(SURE, (("is", 0, ()), (1, 10 ** 6), ((1, 0),))), False)

    def test_drawn(self):
        seen = {True: 0, False: 0, None: 0}
        for rng in drawn(150, 180):
            net = draw_net(rng)
            question = draw_question(rng, net)
            answer = plain_answer(net, question)
            seen[answer] += 1
            if answer is None:
                self.refused("barred", answer_of, net, question)
                continue
            self.assertIs(answer_of(net, question), answer)
            turning = turning_fillings(net, question)
            for filling, margin in plain_margins(net, question).items():
                self.assertEqual(self.pair(margin_of(net, question, filling)), margin)
                self.assertIs(is_turning(net, question, filling), filling in turning)
                self.assertEqual(filling in turning, margin < ZERO)
        self.assertGreater(min(seen.values()), 10)

    def test_worst(self):
        nothing = 0
        for rng in drawn(150, 181):
            net, question = draw_asked(rng)
            told = [thing for thing, _ in question[2]]
            margins = plain_margins(net, question)
            for lot in lots_of(told):
                within = [filling for filling in margins if all(
                    case == found for (thing, found), case in zip(question[2], filling) if thing in lot)]
                due = min((margins[filling], filling) for filling in within)
                margin, filling = worst_filling(net, question, lot)
                self.assertEqual((self.pair(margin), filling), due)
                self.assertIs(is_reason(net, question, lot), not due[0] < ZERO)
                nothing += due[0] == ZERO
        self.assertGreater(nothing, 20)

    def test_many_told(self):
        net = chain_of(24)
        question = (("is", 12, (0,)), (3, 4), tuple((at, 0) for at in range(24) if at != 12))
        self.assertIs(answer_of(net, question), True)
        margin, filling = worst_filling(net, question, ())
        self.assertLess(self.pair(margin), ZERO)
        self.assertEqual(margin_of(net, question, filling), margin)
        # Things far off may be anything; the next ones alone give the answer.
        self.assertEqual(smaller_reason(net, question, tuple(at for at in range(24) if at != 12)), (11, 13))
        margin, filling = worst_filling(net, question, (11, 13))
        self.assertEqual(margin_of(net, question, filling), margin)
        self.refused("size", least_reasons, net, question)


class TestReasons(QuestionCase):
    def test_drawn(self):
        sizes = {}
        for rng in drawn(150, 182):
            net, question = draw_asked(rng)
            told = tuple(thing for thing, _ in question[2])
            reasons = plain_reasons(net, question)
            for lot in lots_of(told):
                self.assertIs(is_reason(net, question, lot), lot in reasons)
                if lot not in reasons:
                    self.refused("reason", smaller_reason, net, question, lot)
                    self.refused("reason", reason_paper, net, question, lot)
                    continue
                due = lot
                for thing in lot:
                    less = tuple(other for other in due if other != thing)
                    due = less if less in reasons else due
                self.assertEqual(smaller_reason(net, question, lot), due)
                self.assertFalse(any(set(other) < set(due) for other in reasons))
            self.assertIn(told, reasons)
            least = least_reasons(net, question)
            self.assertEqual(least, least_of_lots(reasons))
            turned = [set(thing for (thing, case), other in zip(question[2], filling) if case != other)
                      for filling in turning_fillings(net, question)]
            for lot in lots_of(told):
                self.assertIs(any(set(reason) <= set(lot) for reason in least), lot in reasons)
                self.assertIs(all(set(reason) & set(lot) for reason in least), any(one <= set(lot) for one in turned))
            sizes[len(least)] = sizes.get(len(least), 0) + 1
        self.assertGreater(sum(many for size, many in sizes.items() if size > 1), 10)

    def test_any_value(self):
        net, question = votes(3), (("is", 0, (0,)), (1, 2), ((1, 0), (2, 0), (3, 0)))
        wrong = NO_TUPLES + ((0,), (1, 0), (2, 1), (1, 1, 2), (-1,), (4,), (1, 2, 4), [1, 2], nest(100000), (0, 1, 2), ((1, 2),))
        for value in wrong:
            self.assertIs(is_reason(net, question, value), False)
            self.refused("reason", smaller_reason, net, question, value)
            self.refused("reason", reason_paper, net, question, value)
        for item in NO_INTEGERS + (Odd(),):
            self.assertIs(is_reason(net, question, (item, 2, 3)), False)
            self.assertIs(is_reason(net, question, (1, 2, item)), False)
            self.refused("reason", reason_paper, net, question, (1, 2, item))
        self.assertIs(is_reason(net, question, (True, 2, 3)), False)
        self.assertIs(is_reason(net, question, (1, 2, 3)), True)

    def test_votes(self):
        net, question = votes(5), (("is", 0, (0,)), (1, 2), tuple((at, 0) for at in range(1, 6)))
        self.assertEqual(len(least_reasons(net, question)), 10)
        self.assertEqual(smaller_reason(net, question, (1, 2, 3, 4, 5)), (3, 4, 5))
        self.assertEqual(worst_filling(net, question, (1,))[1], (0, 1, 1, 1, 1))

    def test_no_findings_and_all(self):
        question = (QUESTION[0], (1, 7), ())
        self.assertEqual((least_reasons(HUM, question), smaller_reason(HUM, question, ())), (((),), ()))
        self.assertEqual(worst_filling(HUM, question, ())[1], ())
        self.assertEqual(margin_of(HUM, question, ()), ((1, 7), (1, 1)))
        self.assertIs(is_turning(HUM, question, ()), False)
        paper = reason_paper(HUM, question, ())
        self.assertIs(is_reason_paper(HUM, question, paper), True)
        question = (QUESTION[0], (1, 2), ((0, 0), (1, 0)))
        self.assertEqual(least_reasons(HUM, question), ((0,),))
        self.assertEqual(worst_filling(HUM, question, ()), (((-25, 84), (25, 42)), (1, 1)))
        paper = reason_paper(HUM, question, (0, 1))
        self.assertEqual((paper.lot, paper.sequence, paper.messages), ((0, 1), (), ()))
        self.assertIs(is_reason_paper(HUM, question, paper), True)

    def test_nothing_turns(self):
        for bar, claim in (((0, 1), ("is", 0, ())), ((1, 1), ("is", 0, (0, 1)))):
            question = (claim, bar, ((1, 0),))
            self.assertIs(answer_of(HUM, question), True)
            self.assertEqual(least_reasons(HUM, question), ((),))

    def test_size(self):
        net = votes(12)
        question = (("is", 0, (0,)), (1, 2), tuple((at, 0) for at in range(1, 11)))
        self.assertEqual(len(least_reasons(net, question)), 252)
        question = (("is", 0, (0,)), (1, 2), tuple((at, 0) for at in range(1, 12)))
        self.refused("size", least_reasons, net, question)
        self.assertEqual(len(smaller_reason(net, question, tuple(range(1, 12)))), 6)


class TestPapers(QuestionCase):
    def judged(self, net, question, value):
        told = is_reason_paper(net, question, value)
        self.assertIs(type(told), bool)
        return told

    def test_attributes(self):
        odd = [1]
        paper = Reason(lot=odd, sequence=None, messages=3)
        self.assertEqual(vars(paper), {"lot": [1], "sequence": None, "messages": 3})
        self.assertIs(paper.lot, odd)

    def test_made(self):
        for rng in drawn(100, 183):
            net, question = draw_asked(rng)
            for lot in plain_reasons(net, question):
                paper = reason_paper(net, question, lot)
                self.assertEqual(paper.lot, lot)
                self.assertEqual(sorted(paper.sequence + lot), list(range(len(net.things))))
                self.assertTrue(plain_is_paper(net, question, lot, paper.sequence, paper.messages))
                self.assertTrue(self.judged(net, question, paper))

    def test_any_sequence_and_rounded(self):
        """Messages made in any sequence, moved up or down, are judged as their words say; right ones are reasons."""
        right = wrong = 0
        for rng in drawn(400, 184):
            net, question = draw_asked(rng)
            reasons = plain_reasons(net, question)
            told = [thing for thing, _ in question[2]]
            lot = rng.choice(reasons) if rng.random() < 0.7 else rng.choice(lots_of(told))
            others = [thing for thing in range(len(net.things)) if thing not in lot]
            sequence = tuple(rng.sample(others, len(others)))
            if rng.random() < 0.5:
                sequence = tuple(sorted(sequence, key=lambda thing: thing in told))
            left, messages = PlainParts(net, question, lot), []
            chance = rng.choice((0, 0.2, 0.5))
            for thing in sequence:
                word, things, entries = left.due(thing)
                for key, entry in entries.items():
                    if rng.random() < chance:
                        down, up = Fraction(rng.randint(-1, 6), 500), Fraction(rng.randint(-1, 6), 500)
                        if word == "margin":
                            entries[key] = (entry[0] - down, entry[1] - up) if rng.random() < 0.5 else (entry[0], entry[1] - up)
                        else:
                            entries[key] = (max(Fraction(0), entry[0] - down), max(Fraction(0), entry[1] + up))
                left.take(thing, (word, things, entries))
                messages.append(as_message(word, things, entries))
            due = plain_is_paper(net, question, lot, sequence, messages)
            self.assertIs(self.judged(net, question, Reason(lot, sequence, tuple(messages))), due)
            right, wrong = right + due, wrong + (not due)
            if due:
                self.assertIn(lot, reasons)
        self.assertGreater(min(right, wrong), 80)

    def test_spoilt_at_one_place(self):
        right = wrong = 0
        for rng in drawn(60, 185):
            net, question = draw_asked(rng, rng.randint(2, 4))
            lot = rng.choice(plain_reasons(net, question))
            paper = reason_paper(net, question, lot)
            for at, message in enumerate(paper.messages):
                word, things, entries = as_entries(net, message)
                for key in entries:
                    for place, step in product(range(2), (Fraction(1, 97), -Fraction(1, 97))):
                        entry = list(entries[key])
                        entry[place] += step
                        if word == "plain" and min(entry) < 0:
                            continue
                        other = as_message(word, things, {**entries, key: tuple(entry)})
                        messages = paper.messages[:at] + (other,) + paper.messages[at + 1:]
                        due = plain_is_paper(net, question, lot, paper.sequence, messages)
                        told = self.judged(net, question, Reason(lot, paper.sequence, messages))
                        self.assertIs(told, due)
                        right, wrong = right + due, wrong + (not due)
        self.assertGreater(min(right, wrong), 100)

    def test_below_0(self):
        net = votes(2)
        question = (("is", 0, (0,)), (1, 2), ((1, 0), (2, 0)))
        paper = reason_paper(net, question, (1, 2))
        self.assertTrue(self.judged(net, question, paper))
        low = (("plain", (0,), ((-1, 4), (1, 4)), HALF),)
        self.assertFalse(self.judged(net, question, Reason((1, 2), paper.sequence, low)))

    def test_sums_after_told_things_may_be_too_low(self):
        net = votes(1)
        question = (("is", 0, (0,)), (1, 2), ((1, 0),))
        self.assertTrue(self.judged(net, question, reason_paper(net, question, (1,))))
        self.assertFalse(is_reason(net, question, ()))

    def test_any_value(self):
        net, question = votes(3), (("is", 0, (0,)), (1, 2), ((1, 0), (2, 0), (3, 0)))
        paper = reason_paper(net, question, (1, 2))
        lot, sequence, messages = paper.lot, paper.sequence, paper.messages
        self.assertEqual(len(messages), 2)
        kinds = [message[0] for message in messages]
        self.assertEqual(kinds, ["margin", "margin"])
        values = NO_TUPLES + ((), nest(100000), (None,), ((), ()), (lot, sequence, messages))
        for value in values:
            self.assertFalse(self.judged(net, question, value))
            self.assertFalse(self.judged(net, question, Reason(value, sequence, messages)))
            self.assertFalse(self.judged(net, question, Reason(lot, value, messages)))
            self.assertFalse(self.judged(net, question, Reason(lot, sequence, value)))
            for at, message in enumerate(messages):
                for place in range(len(message)):
                    self.spoilt(net, question, paper, at, message[:place])
                    if place != 1 or type(value) is not tuple or len(value):
                        self.spoilt(net, question, paper, at, message[:place] + (value,) + message[place + 1:])
                self.spoilt(net, question, paper, at, value)
                self.spoilt(net, question, paper, at, message + (value,))
                self.spoilt(net, question, paper, at, message[:2] + ((value,) + message[2][1:],))
                self.spoilt(net, question, paper, at, message[:2] + (((value, (1, 1)),) + message[2][1:],))
                for first in ((-9, 1), message[2][0][0]):
                    self.spoilt(net, question, paper, at, message[:2] + (((first, value),) + message[2][1:],))
        for wrong in (sequence[::-1] + (1,), sequence + sequence[:1], sequence[1:], (0, 2), (0, 0), (False, 3), list(sequence)):
            self.assertFalse(self.judged(net, question, Reason(lot, wrong, messages)))
        for wrong in ((2, 1), (1,), (1, 2, 3), (0, 1, 2), (True, 2), (1, 1, 2), [1, 2]):
            self.assertFalse(self.judged(net, question, Reason(wrong, sequence, messages)))
        self.assertFalse(self.judged(net, question, Reason(lot, sequence, messages[::-1])))
        self.assertFalse(self.judged(net, question, Reason(lot, sequence, messages[:1])))
        self.assertFalse(self.judged(net, question, Reason(lot, sequence, list(messages))))

    def spoilt(self, net, question, paper, at, message):
        messages = paper.messages[:at] + (message,) + paper.messages[at + 1:]
        self.assertFalse(self.judged(net, question, Reason(paper.lot, paper.sequence, messages)))

    def test_plain_messages(self):
        """Things that the claim has nothing to do with give plain messages, with bounds for told ones."""
        net = Net(HUM.things + (("far", 2, (1,), (((1, 3), (2, 3)), ((1, 4), (3, 4)))),))
        question = (("is", 0, (0,)), (1, 2), ((1, 0), (2, 1)))
        paper = reason_paper(net, question, (1,))
        self.assertEqual(paper.sequence, (0, 2))
        self.assertEqual(paper.messages[1], ("plain", (), ((1, 3),), ((2, 3),)))
        for low, high, due in (((1, 3), (2, 3), True), ((0, 1), (5, 1), True), ((1, 2), (2, 3), False), ((1, 3), (1, 2), False),
                               ((-1, 3), (2, 3), False), ((1, 3), (-2, 3), False), (0, (2, 3), False), ((1, 3), None, False)):
            messages = (paper.messages[0], ("plain", (), (low,), (high,)))
            self.assertIs(self.judged(net, question, Reason((1,), (0, 2), messages)), due)
        for message in (("plain", (), ((1, 3),)), ("plain", (1,), ((1, 3),) * 2, ((2, 3),) * 2), ("margin", (), (((1, 3), (1, 1)),)),
                        ("plain", (), ((1, 3),) * 2, ((2, 3),)), ("plain", (), ((1, 3),), ((2, 3),), ())):
            self.assertFalse(self.judged(net, question, Reason((1,), (0, 2), (paper.messages[0], message))))

    def test_things_of_a_message(self):
        """A message over other things with as many fillings is none, even if its entries would do."""
        net = Net((("a", 2, (), (HALF,)), ("b", 2, (), (HALF,)), ("c", 2, (0,), (HALF, HALF)), ("d", 2, (1,), (HALF, HALF))))
        question = (("is", 0, (0, 1)), (1, 2), ((2, 0),))
        left, sequence, messages = PlainParts(net, question, ()), (3, 1, 0, 2), []
        for thing in sequence:
            message = left.due(thing)
            left.take(thing, message)
            messages.append(as_message(*message))
        self.assertEqual(messages[0], ("plain", (1,), ((1, 1),) * 2, ((1, 1),) * 2))
        paper = Reason((), sequence, tuple(messages))
        self.assertTrue(self.judged(net, question, paper))
        for things in ((0,), (2,), (3,), (True,), (7,)):
            self.spoilt(net, question, paper, 0, ("plain", things) + messages[0][2:])

    def test_large(self):
        net = chain_of(24)
        question = (("is", 12, (0,)), (3, 4), tuple((at, 0) for at in range(24) if at % 2))
        reason = smaller_reason(net, question, tuple(range(1, 24, 2)))
        self.assertEqual(reason, (11, 13))
        paper = reason_paper(net, question, reason)
        self.assertTrue(self.judged(net, question, paper))
        self.assertEqual(fillings(net, ()), [()])
        self.assertEqual(found_filling(question), (0,) * 12)


if __name__ == "__main__":
    unittest.main()
