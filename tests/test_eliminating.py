"""Points 31 and 32: elimination, weights and shares."""

import unittest
from fractions import Fraction

from allworlds.claims import things_of_claim, without_not
from allworlds.eliminating import (
    claim_tables, eliminated, greatest_weight, share_by, shares_by, tables_by, weight_by,
)
from allworlds.errors import Refused
from allworlds.extremes import greatest_out
from allworlds.nets import Net, counts_of, finding
from allworlds.plain import plain_share, plain_shares
from allworlds.sequences import clusters_by, scopes_in, scopes_without
from allworlds.sums import product_of, summed_out
from allworlds.tables import Table, claim_table, entry_in, is_table, one_table
from tests.drawn import (
    NO_INTEGERS, NO_TUPLES, Odd, all_worlds, draw_claim, draw_lot, draw_net, draw_news, drawn, nest, plain, plain_holds,
    plain_row, plain_weight,
)
from tests.test_plain import claim_weight, weights_by_filling
from tests.test_sums import draw_from_zero
from tests.test_tables import draw_table

HALF = ((1, 2), (1, 2))
SURE = Net((("a", 2, (), (((1, 1), (0, 1)),)), ("b", 2, (0,), (HALF, HALF)), ("c", 2, (), (HALF,))))
NO_WORLD = (finding(SURE, 0, 1),)
CLAIM = ("is", 0, (0,))


def wide(things):
    """A net of so many things with two cases and no ties."""
    return Net(tuple(("abcdefghijklmnopqrstuvwx"[at], 2, (), (((1, 3), (2, 3)),)) for at in range(things)))


def is_any(things, case=1):
    """The claim that one of some things has a case."""
    return ("or",) + tuple(("is", thing, (case,)) for thing in things)


class EliminatingCase(unittest.TestCase):
    """What all tests here need."""

    def refused(self, word, told, *values):
        with self.assertRaises(Refused) as caught:
            told(*values)
        self.assertEqual(caught.exception.word, word)


class TestTables(EliminatingCase):
    def test_eliminated(self):
        for rng in drawn(150, 160):
            greatest = rng.random() < 0.5
            tables = [draw_from_zero(rng) if greatest else draw_table(rng) for _ in range(rng.randint(0, 4))]
            sequence = tuple(rng.sample(range(6), rng.randint(0, 6)))
            due = list(tables)
            for thing in sequence:
                made = product_of([table for table in due if thing in table.things])
                message = (greatest_out if greatest else summed_out)(made, (thing,))
                due = [table for table in due if thing not in table.things] + [message]
            for form in (tables, tuple(tables)):
                told = eliminated(form, sequence, greatest)
                self.assertIs(type(told), tuple)
                self.assertEqual(list(told), due)
            if not greatest:
                self.assertEqual(eliminated(tables, sequence), tuple(due))
            whole = (greatest_out if greatest else summed_out)(product_of(tables), sequence)
            self.assertEqual(product_of(due), whole)
            self.assertEqual(eliminated(tables=tables, sequence=sequence, greatest=greatest), tuple(due))

    def test_no_tables(self):
        self.assertEqual(eliminated((), ()), ())
        self.assertEqual(eliminated([], (3,)), (one_table(),))
        table = Table((1,), (2,), HALF)
        self.assertEqual(eliminated((table,), (3,)), (table, one_table()))
        self.assertEqual(eliminated((table,), (1,)), (one_table(),))
        self.assertEqual(eliminated((table,), (1,), True), (Table((), (), ((1, 2),)),))
        tables = [table, table]
        eliminated(tables, (1,))
        self.assertEqual(tables, [table, table])

    def test_tables_by(self):
        for rng in drawn(40, 161):
            net = draw_net(rng)
            news = draw_news(rng, net)
            tables = tables_by(net, news)
            self.assertIs(type(tables), tuple)
            self.assertEqual([table.things for table in tables], list(scopes_in(net)))
            for thing, table in enumerate(tables):
                self.assertTrue(is_table(table))
                weights = dict(news).get(thing, ((1, 1),) * net.things[thing][1])
                for world in all_worlds(net):
                    due = plain(plain_row(net, thing, world)[world[thing]]) * plain(weights[world[thing]])
                    self.assertEqual(plain(entry_in(table, world)), due)
        self.assertEqual(tables_by(net=SURE, news=())[2], Table((2,), (2,), HALF))

    def test_claim_tables(self):
        for rng in drawn(120, 162):
            net = draw_net(rng)
            claim = draw_claim(rng, net)
            tables = claim_tables(net, claim)
            self.assertIs(type(tables), tuple)

            def parts(part):
                return [item for below in part[1:] for item in parts(below)] if part[0] == "and" else [part]

            self.assertEqual(list(tables), [claim_table(net, part) for part in parts(without_not(net, claim))])
            for world in all_worlds(net):
                value = Fraction(1)
                for table in tables:
                    value *= plain(entry_in(table, world))
                self.assertEqual(value, 1 if plain_holds(claim, world) else 0)
        claim = ("not", ("or", ("is", 0, (1,)), ("not", ("and", ("is", 2, (0,)), ("is", 1, (1,))))))
        self.assertEqual([table.things for table in claim_tables(net=SURE, claim=claim)], [(0,), (2,), (1,)])

    def test_claim_size(self):
        net = wide(16)
        every = ("and",) + tuple(("is", thing, (0,)) for thing in range(16))
        self.assertEqual(len(claim_tables(net, every)), 16)
        self.assertEqual(len(claim_tables(net, ("not", is_any(range(16))))), 16)
        self.refused("size", claim_tables, net, is_any(range(15)))
        self.refused("size", claim_tables, net, ("and", CLAIM, is_any(range(15))))
        self.assertEqual(len(claim_tables(net, is_any(range(14)))), 1)


class TestWeights(EliminatingCase):
    def test_weight(self):
        for rng in drawn(120, 163):
            net = draw_net(rng)
            news = draw_news(rng, net)
            things = tuple(range(len(net.things)))
            sequence = tuple(rng.sample(things, len(things)))
            total = sum(plain_weight(net, news, world) for world in all_worlds(net))
            self.assertEqual(plain(weight_by(net, news, None, sequence)), total)
            claim = draw_claim(rng, net)
            self.assertEqual(plain(weight_by(net, news, claim, sequence)), claim_weight(net, news, claim))
            fixed = draw_lot(rng, len(things))
            rest = tuple(thing for thing in sequence if thing not in fixed)
            self.assertEqual(plain(weight_by(net, news, claim, rest, fixed)), claim_weight(net, news, claim))
            self.assertEqual(plain(weight_by(net, news, None, rest, fixed)), total)
            if total:
                self.assertEqual(share_by(net, news, claim, sequence), plain_share(net, news, claim))
            else:
                self.refused("barred", share_by, net, news, claim, sequence)

    def test_names_of_parameters(self):
        self.assertEqual(weight_by(net=SURE, news=(), claim=None, sequence=(2,), fixed=(0, 1)), (1, 1))
        self.assertEqual(share_by(net=SURE, news=(), claim=("is", 1, (0,)), sequence=(2, 1, 0)), (1, 2))
        self.assertEqual(shares_by(net=SURE, news=(), lot=(2,), sequence=(1, 0)), Table((2,), (2,), HALF))
        self.assertEqual(greatest_weight(net=SURE, news=(), lot=(2,), sequence=(1, 0, 2)), (1, 2))

    def test_fixed_clusters_are_no_greater(self):
        for rng in drawn(80, 164):
            net = draw_net(rng)
            scopes = scopes_in(net)
            fixed = draw_lot(rng, len(net.things))
            sequence = tuple(rng.sample(range(len(net.things)), len(net.things)))
            rest = tuple(thing for thing in sequence if thing not in fixed)
            whole = dict(zip(sequence, clusters_by(scopes, sequence)))
            for thing, cluster in zip(rest, clusters_by(scopes_without(scopes, fixed), rest)):
                self.assertTrue(set(cluster) <= set(whole[thing]))

    def test_shares(self):
        for rng in drawn(80, 165):
            net = draw_net(rng)
            news = draw_news(rng, net)
            lot = draw_lot(rng, len(net.things))
            rest = tuple(thing for thing in rng.sample(range(len(net.things)), len(net.things)) if thing not in lot)
            if not any(plain_weight(net, news, world) for world in all_worlds(net)):
                self.refused("barred", shares_by, net, news, lot, rest)
                continue
            told = shares_by(net, news, lot, rest)
            self.assertTrue(is_table(told))
            self.assertEqual((told.things, told.counts), (lot, tuple(counts_of(net)[thing] for thing in lot)))
            self.assertEqual(told.entries, plain_shares(net, news, lot))

    def test_greatest(self):
        for rng in drawn(100, 166):
            net = draw_net(rng)
            news = draw_news(rng, net)
            lot = draw_lot(rng, len(net.things))
            mixed = rng.sample(range(len(net.things)), len(net.things))
            sequence = tuple([thing for thing in mixed if thing not in lot] + [thing for thing in mixed if thing in lot])
            due = max(weights_by_filling(net, news, lot).values())
            self.assertEqual(plain(greatest_weight(net, news, lot, sequence)), due)
        self.assertEqual(greatest_weight(SURE, NO_WORLD, (0,), (1, 2, 0)), (0, 1))
        self.assertEqual(greatest_weight(SURE, (), (), (1, 2, 0)), (1, 1))

    def test_long_chain(self):
        rows = (((9, 10), (1, 10)), ((1, 5), (4, 5)))
        net = Net(tuple(("abcdefghijklmnopqrstuvwx"[at], 2, (at - 1,) if at else (), rows if at else rows[:1])
                        for at in range(24)))
        sequence = tuple(range(24))
        self.assertEqual(weight_by(net, (), None, sequence), (1, 1))
        share = share_by(net, (), ("is", 23, (1,)), sequence)
        low = Fraction(1, 10)
        for _ in range(23):
            low = (1 - low) * Fraction(1, 10) + low * Fraction(4, 5)
        self.assertEqual(plain(share), low)
        every = ("and",) + tuple(("is", thing, (0,)) for thing in range(24))
        self.assertEqual(plain(share_by(net, (), every, sequence)), Fraction(9, 10) ** 24)
        self.assertEqual(plain(greatest_weight(net, (), sequence, sequence)), Fraction(9, 10) ** 24)


class TestRefusals(EliminatingCase):
    def each(self):
        """The functions that take a sequence, as one of it, with the sequences for the net."""
        return (
            (lambda value: weight_by(SURE, NO_WORLD, is_any((0, 1)), value), (0, 1, 2)),
            (lambda value: weight_by(SURE, NO_WORLD, None, value, (1,)), (0, 2)),
            (lambda value: share_by(SURE, NO_WORLD, CLAIM, value), (0, 1, 2)),
            (lambda value: shares_by(SURE, NO_WORLD, (0, 2), value), (1,)),
            (lambda value: greatest_weight(SURE, NO_WORLD, (0, 2), value), (1, 0, 2)),
        )

    def test_sequence(self):
        for told, right in self.each():
            for value in NO_TUPLES + (nest(100000), list(right), right + (3,), right + right[:1], right[1:], right[:-1] + (7,)):
                self.refused("sequence", told, value)
            for item in NO_INTEGERS + (Odd(), -1):
                self.refused("sequence", told, right[:-1] + (item,))
        self.refused("sequence", greatest_weight, SURE, (), (0, 2), (0, 1, 2))
        self.refused("sequence", greatest_weight, SURE, (), (0, 2), (0, 2, 1))
        self.assertEqual(greatest_weight(SURE, (), (0, 2), (1, 2, 0)), (1, 2))
        self.refused("sequence", shares_by, SURE, (), (0, 2), (0, 1, 2))
        self.refused("sequence", weight_by, SURE, (), None, (0, 1, 2), (1,))
        self.refused("sequence", weight_by, SURE, (), None, (True, False, 2))

    def test_claims_over_many_fillings(self):
        net = wide(16)
        sequence = tuple(range(16))
        # The worlds in which an "or" does not hold are those of an "and".
        some = is_any(range(16))
        self.assertEqual(plain(weight_by(net, (), some, sequence)), 1 - Fraction(1, 3) ** 16)
        self.assertEqual(plain(share_by(net, (), some, sequence)), 1 - Fraction(1, 3) ** 16)
        self.assertEqual(plain(share_by(net, (), ("not", some), sequence)), Fraction(1, 3) ** 16)
        self.assertEqual(weight_by(net, (), ("or", some, CLAIM), sequence), (1, 1))
        # Parts that "and" joins, of the claim or of that of its others, are refused if one is too big.
        for claim in (("and", CLAIM, some), ("or", CLAIM, ("not", some)), ("not", ("and", some, some)),
                      ("not", ("or", CLAIM, ("and", CLAIM, ("not", some))))):
            self.refused("size", weight_by, net, (), claim, sequence)
            self.refused("size", share_by, net, (), claim, sequence)
            self.refused("sequence", share_by, net, (), claim, sequence[1:])
            self.refused("sequence", weight_by, net, (), claim, sequence + (0,))

    def test_first_refusal(self):
        big = ("and", CLAIM, is_any(range(16)))
        net = wide(16)
        barred = Net((("a", 2, (), (((1, 1), (0, 1)),)),) + net.things[1:])
        news = (finding(barred, 0, 1),)
        sequence = tuple(range(16))
        self.refused("sequence", share_by, barred, news, big, sequence[1:])
        self.refused("barred", share_by, barred, news, big, sequence)
        self.refused("barred", share_by, barred, news, CLAIM, sequence)
        self.refused("size", weight_by, barred, news, big, sequence)
        self.assertEqual(weight_by(barred, news, CLAIM, sequence), (0, 1))
        self.refused("sequence", shares_by, barred, news, (0,), sequence)
        self.refused("barred", shares_by, barred, news, (0,), sequence[1:])
        self.assertEqual(things_of_claim(big), sequence)

    def test_or_is_used_by_its_others(self):
        tried = 0
        for rng in drawn(60, 167):
            net = draw_net(rng)
            claim = draw_claim(rng, net)
            if without_not(net, claim)[0] == "or":
                tried += 1
                sequence = tuple(range(len(net.things)))
                self.assertEqual(plain(weight_by(net, (), claim, sequence)), claim_weight(net, (), claim))
        self.assertGreater(tried, 10)


if __name__ == "__main__":
    unittest.main()
