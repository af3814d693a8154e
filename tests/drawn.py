"""Small drawn nets, news and claims, plain sums over them, and odd values."""

from fractions import Fraction
from itertools import product
from math import gcd
from random import Random

from allworlds.nets import Net


class Odd:
    """An object that can be asked for nothing but its kind."""

    def __eq__(self, other):
        raise RuntimeError("compared")

    def __hash__(self):
        raise RuntimeError("hashed")

    def __len__(self):
        raise RuntimeError("measured")

    def __iter__(self):
        raise RuntimeError("iterated")

    def __bool__(self):
        raise RuntimeError("tested")

    def __lt__(self, other):
        raise RuntimeError("ordered")

    __gt__ = __le__ = __ge__ = __lt__

    def __getitem__(self, at):
        raise RuntimeError("indexed")

    def __int__(self):
        raise RuntimeError("counted")

    __index__ = __int__


def nest(depth):
    """A tuple in a tuple, and so on."""
    value = ()
    for _ in range(depth):
        value = (value,)
    return value


# Never lots, claims, fractions or numbers; none is a tuple.
NO_TUPLES = (None, True, False, 0, 1, -1, 7, 1.5, float("nan"), "", "a", "is", b"a", [], [0], [(1, 2)], {}, {0: 1},
             set(), {1}, frozenset(), range(3), object(), Odd(), Odd, len, 10 ** 400)
# What is no integer.
NO_INTEGERS = (None, True, False, 1.0, 0.0, "", "0", b"0", (), (0,), [], [0], {}, set(), object(), Odd(), nest(100000))


def pair_of(fraction):
    """A fraction of the package for one of Python's."""
    return (fraction.numerator, fraction.denominator)


def plain(pair):
    """One of Python's fractions for one of the package, which must be in lowest terms."""
    top, bottom = pair
    assert type(pair) is tuple and type(top) is int and type(bottom) is int
    assert bottom > 0 and gcd(top, bottom) == 1
    return Fraction(top, bottom)


def draw_row(rng, count, zeros=True):
    """A row with small tops, perhaps with zeros."""
    while True:
        tops = [rng.randint(0 if zeros else 1, 4) for _ in range(count)]
        if sum(tops):
            return tuple(pair_of(Fraction(top, sum(tops))) for top in tops)


def draw_net(rng, things=None, cases=3, parents=3, zeros=True):
    """A net with a few things."""
    many = things or rng.randint(1, 5)
    rows = []
    counts = []
    for at in range(many):
        count = rng.randint(2, cases)
        chosen = tuple(sorted(rng.sample(range(at), rng.randint(0, min(parents, at)))))
        fillings = 1
        for parent in chosen:
            fillings *= counts[parent]
        pool = [draw_row(rng, count, zeros) for _ in range(rng.choice((1, 2, 20)))]
        name = "".join(rng.choice("abcxyz") for _ in range(rng.randint(0, 4))) + "ghijklmnop"[at]
        rows.append((name, count, chosen, tuple(rng.choice(pool) for _ in range(fillings))))
        counts.append(count)
    return Net(tuple(rows))


def draw_weights(rng, count):
    """Weights for a thing: any, equal ones, or those of a finding."""
    kind = rng.randrange(4)
    if kind == 0:
        case = rng.randrange(count)
        return tuple((1, 1) if at == case else (0, 1) for at in range(count))
    if kind == 1:
        return (pair_of(Fraction(rng.randint(1, 5), rng.randint(1, 5))),) * count
    while True:
        weights = tuple(pair_of(Fraction(rng.randint(0, 3), rng.randint(1, 3))) for _ in range(count))
        if any(top for top, _ in weights):
            return weights


def draw_news(rng, net, chance=0.5):
    """News about some things."""
    told = [at for at in range(len(net.things)) if rng.random() < chance]
    return tuple((at, draw_weights(rng, net.things[at][1])) for at in told)


def draw_lot(rng, many):
    """A lot of numbers below another one."""
    return tuple(at for at in range(many) if rng.random() < 0.5)


def draw_claim(rng, net, depth=4):
    """A claim about a net."""
    word = rng.choice(("is", "not", "and", "or")) if depth else "is"
    if word == "is":
        thing = rng.randrange(len(net.things))
        return ("is", thing, draw_lot(rng, net.things[thing][1]))
    many = 1 if word == "not" else rng.randint(2, 3)
    return (word,) + tuple(draw_claim(rng, net, depth - 1) for _ in range(many))


def all_worlds(net):
    """All worlds, ascending."""
    return list(product(*[range(thing[1]) for thing in net.things]))


def plain_row(net, thing, world):
    """The row of a thing in a world, found by counting through all fillings."""
    _, _, parents, rows = net.things[thing]
    fillings = list(product(*[range(net.things[parent][1]) for parent in parents]))
    return rows[fillings.index(tuple(world[parent] for parent in parents))]


def plain_world_share(net, world):
    """The share of a world as one of Python's fractions."""
    share = Fraction(1)
    for thing in range(len(net.things)):
        share *= plain(plain_row(net, thing, world)[world[thing]])
    return share


def plain_weight(net, news, world):
    """The weight of a world by news."""
    weight = plain_world_share(net, world)
    for thing, weights in news:
        weight *= plain(weights[world[thing]])
    return weight


def plain_holds(claim, world):
    """Whether a claim holds in a world."""
    word = claim[0]
    if word == "is":
        return world[claim[1]] in claim[2]
    if word == "not":
        return not plain_holds(claim[1], world)
    answers = [plain_holds(part, world) for part in claim[1:]]
    return all(answers) if word == "and" else any(answers)


def drawn(many, seed=0):
    """Random sources, one for each try, the same ones in each run."""
    return [Random(1000 * seed + at) for at in range(many)]
