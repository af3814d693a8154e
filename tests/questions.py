"""Small drawn questions, and their answers, margins and papers by plain sums."""

from fractions import Fraction
from itertools import combinations, product

from allworlds.nets import Net
from tests.drawn import all_worlds, draw_claim, draw_lot, draw_net, pair_of, plain, plain_holds, plain_world_share


def margin_sums(net, question):
    """For each filling of the told things the weight of the claim and the total."""
    told = [thing for thing, _ in question[2]]
    sums = {filling: [Fraction(0), Fraction(0)] for filling in fillings(net, told)}
    for world in all_worlds(net):
        weight = plain_world_share(net, world)
        both = sums[tuple(world[thing] for thing in told)]
        both[1] += weight
        if plain_holds(question[0], world):
            both[0] += weight
    return sums


def fillings(net, things):
    """All fillings of some things."""
    return list(product(*[range(net.things[thing][1]) for thing in things]))


def found_filling(question):
    """The cases found."""
    return tuple(case for _, case in question[2])


def plain_answer(net, question):
    """The answer, or None if no world is left."""
    weight, total = margin_sums(net, question)[found_filling(question)]
    return weight / total >= plain(question[1]) if total else None


def plain_margins(net, question):
    """For each filling of the told things its margin."""
    sign = 1 if plain_answer(net, question) else -1
    bar = plain(question[1])
    return {filling: (sign * (weight - bar * total), sign * total)
            for filling, (weight, total) in margin_sums(net, question).items()}


def turning_fillings(net, question):
    """The fillings that turn the answer, by the words of the document."""
    answer = plain_answer(net, question)
    bar = plain(question[1])
    return [filling for filling, (weight, total) in margin_sums(net, question).items()
            if total and (weight / total >= bar) is not answer]


def changes(question, filling):
    """The told things with another case."""
    return tuple(thing for (thing, case), other in zip(question[2], filling) if case != other)


def lots_of(things):
    """All lots of some things."""
    return [lot for many in range(len(things) + 1) for lot in combinations(things, many)]


def plain_reasons(net, question):
    """All reasons."""
    told = [thing for thing, _ in question[2]]
    turned = [changes(question, filling) for filling in turning_fillings(net, question)]
    return [lot for lot in lots_of(told) if all(set(lot) & set(one) for one in turned)]


def least_of_lots(lots):
    """Those of some lots of which no part is one of them, as a lot."""
    return tuple(sorted(lot for lot in lots if not any(set(other) < set(lot) for other in lots)))


def draw_question(rng, net, told=None):
    """A question about a net: often with a bar that is just the share, and some findings."""
    many = len(net.things)
    lot = draw_lot(rng, many) if told is None else tuple(sorted(rng.sample(range(many), min(told, many))))
    findings = tuple((thing, rng.randrange(net.things[thing][1])) for thing in lot)
    claim = draw_claim(rng, net, 3)
    weight, total = margin_sums(net, (claim, (0, 1), findings))[tuple(case for _, case in findings)]
    kind = rng.randrange(5)
    bar = Fraction(rng.randint(0, 6), 6)
    if kind == 0 and total:
        bar = weight / total
    elif kind == 1 and total:
        bar = min(Fraction(1), weight / total + Fraction(1, 1000))
    return claim, pair_of(bar), findings


def draw_votes(rng, many):
    """A net with so many things that each tell of the first one, and a question about this."""
    half = (1, 2)
    things = [("it", 2, (), ((half, half),))]
    for at in range(many):
        sure = pair_of(Fraction(rng.randint(5, 8), 9))
        rest = pair_of(1 - plain(sure))
        things.append(("abcdef"[at], 2, (0,), ((sure, rest), (rest, sure))))
    findings = tuple((at, rng.choice((0, 0, 1))) for at in range(1, many + 1) if rng.random() < 0.9)
    claim = rng.choice((("is", 0, (0,)), ("or", ("is", 0, (0,)), ("is", many, (1,)))))
    return Net(tuple(things)), (claim, rng.choice((half, (1, 3), (2, 3))), findings)


def draw_asked(rng, things=None, told=None):
    """A net and a question with an answer."""
    if things is None and told is None and rng.random() < 0.4:
        return draw_votes(rng, rng.randint(2, 5))
    while True:
        net = draw_net(rng, things or rng.randint(1, 5))
        question = draw_question(rng, net, told)
        if plain_answer(net, question) is not None:
            return net, question


class PlainParts:
    """The parts of a paper of a reason, in Python's fractions and by filling, from the words of the document."""

    def __init__(self, net, question, lot):
        claim, bar, findings = question
        self.net = net
        self.told = [thing for thing, _ in findings]
        self.fixed = {thing: case for thing, case in findings if thing in lot}
        self.parts = []
        for thing in range(len(net.things)):
            family = net.things[thing][2] + (thing,)
            self.parts.append(self.part("plain", family, lambda cases, at=thing: self.chance(at, cases)))
        sign = 1 if plain_answer(net, question) else -1
        bar = plain(bar)
        spoken = sorted(things_spoken(claim))

        def margin(cases):
            world = [cases.get(at, 0) for at in range(len(net.things))]
            return (sign * (1 - bar), Fraction(sign)) if plain_holds(claim, world) else (-sign * bar, Fraction(sign))

        self.parts.append(self.part("margin", spoken, margin))

    def part(self, word, things, told):
        """A part over the things that are not fixed."""
        free = tuple(thing for thing in things if thing not in self.fixed)
        entries = {}
        for filling in fillings(self.net, free):
            cases = {**{thing: self.fixed.get(thing) for thing in things}, **dict(zip(free, filling))}
            value = told(cases)
            entries[filling] = (value, value) if word == "plain" else value
        return word, free, entries

    def chance(self, thing, cases):
        """The fraction of a thing's case with its parents' cases."""
        _, _, parents, rows = self.net.things[thing]
        row = rows[fillings(self.net, parents).index(tuple(cases[parent] for parent in parents))]
        return plain(row[cases[thing]])

    def due(self, thing):
        """The message of a thing: its word, its things, and its entries by filling."""
        having = [part for part in self.parts if thing in part[1]]
        word = "margin" if any(part[0] == "margin" for part in having) else "plain"
        things = tuple(sorted({other for part in having for other in part[1]} - {thing}))
        entries = {}
        for filling in fillings(self.net, things):
            values = []
            for case in range(self.net.things[thing][1]):
                cases = {**dict(zip(things, filling)), thing: case}
                values.append(self.put_together(having, cases))
            entries[filling] = self.fold(word, values, thing in self.told)
        return word, things, entries

    def put_together(self, having, cases):
        """The lows and highs, or the margin, of parts at some cases."""
        low, high, margin = Fraction(1), Fraction(1), None
        for word, things, entries in having:
            entry = entries[tuple(cases[thing] for thing in things)]
            if word == "plain":
                low, high = low * entry[0], high * entry[1]
            else:
                margin = entry
        if margin is None:
            return low, high
        factor = high if margin < (0, 0) else low
        return margin[0] * factor, margin[1] * factor

    def fold(self, word, values, told):
        """The sums over all cases, or for a told thing the bounds."""
        if not told:
            return sum(value[0] for value in values), sum(value[1] for value in values)
        if word == "margin":
            return min(values)
        return min(value[0] for value in values), max(value[1] for value in values)

    def take(self, thing, message):
        """Put a message in the place of the parts with a thing."""
        self.parts = [part for part in self.parts if thing not in part[1]] + [message]

    def last(self):
        """The margin in the end."""
        return self.put_together(self.parts, {})


def things_spoken(claim):
    """The things of a claim."""
    return {claim[1]} if claim[0] == "is" else {thing for part in claim[1:] for thing in things_spoken(part)}


def as_entries(net, message):
    """A message of the package as in PlainParts."""
    keys = fillings(net, message[1])
    if message[0] == "plain":
        pairs = [(plain(low), plain(high)) for low, high in zip(message[2], message[3], strict=True)]
    else:
        pairs = [(plain(one), plain(other)) for one, other in message[2]]
    return message[0], message[1], dict(zip(keys, pairs, strict=True))


def as_message(word, things, entries):
    """A message of PlainParts as one of the package."""
    ordered = [entries[key] for key in sorted(entries)]
    if word == "margin":
        return word, things, tuple((pair_of(one), pair_of(other)) for one, other in ordered)
    return word, things, tuple(pair_of(low) for low, _ in ordered), tuple(pair_of(high) for _, high in ordered)


def plain_is_paper(net, question, lot, sequence, messages):
    """Whether messages in the right form are those of a right paper."""
    left = PlainParts(net, question, lot)
    for thing, message in zip(sequence, messages, strict=True):
        word, things, entries = left.due(thing)
        given = as_entries(net, message)
        if given[:2] != (word, things):
            return False
        for key, due in entries.items():
            entry = given[2][key]
            if word == "margin" and entry > due:
                return False
            if word == "plain" and (entry[0] > due[0] or entry[0] < 0 or entry[1] < due[1]):
                return False
        left.take(thing, given)
    return left.last() >= (0, 0)
