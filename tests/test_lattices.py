"""Lattice orders [0.11], [0.15], [5.1] to [5.3]."""

import itertools
import random
import unittest

from downsets.back.lattices import (
    does_split, highest, is_lattice, is_lattice_paper, is_split_paper, join, lattice_paper, lots_order, lowest, meet,
    one_down, one_up, split_paper)
from downsets.base.lots import chains_up, closed_lots
from downsets.base.orders import Order
from downsets.errors import InvalidOperation, InvalidOrder
from tests.helper import (
    BOOLEAN, CROWN, EXAMPLES, FLAT, FLAT_FORTY, FORTY, NAMES, NO_ORDERS, ODD_VALUES, ONE, PENT, SEVEN, SQUARE, VEE,
    ZIG, Case, check_cases, check_judge, check_spoilt, check_too_many, five_orders, free_case,
    names_for, odd_but, order_case, place_case, same, slow_closed_lots, small_orders, spread_orders, with_pairs)

DIAMOND = Order.flat(("o",)) >> FLAT >> Order.flat(("z",))
TWO = Order.chain(("b", "a"))
# Here b and c have the same join and the same meet with x, but not with one another.
WITHIN = Order.flat(("s",)) >> (SQUARE + Order(("x",))) >> Order.flat(("u",))


def six_and_seven():
    """Lattice orders of six and seven places, that split and that do not."""
    return [
        lots_order(ZIG.without("d"), names_for(5)),
        lots_order(VEE + Order.flat(("z",)), names_for(10)),
        SQUARE >> Order(("x",)), SQUARE >> SQUARE.renamed({"a": "w", "b": "x", "c": "y", "d": "z"}).without("w"),
        PENT >> Order(("x", "y"), (("y", "x"),)), Order(("x",)) >> DIAMOND, DIAMOND >> Order.chain(("y", "x")),
        Order.flat(("s",)) >> Order.flat(tuple("defgh")) >> Order.flat(("u",)),
        WITHIN, WITHIN.renamed(dict(zip("abcdsux", "ybcdsua"))), WITHIN.renamed(dict(zip("abcdsux", "mabnpqc"))),
        Order.flat(("s",)) >> (Order.chain(("p", "m")) + Order.chain(("c", "e", "d"))) >> Order.flat(("u",)),
    ]


JOINS = {}


def joins_of(places, pairs):
    """The joins of all two places, found slowly, but once for each order."""
    if (places, pairs) not in JOINS:
        table = {}
        ends = {x: {y for y in places if x == y or (x, y) in pairs} for x in places}
        for one in places:
            for other in places:
                found = ends[one] & ends[other]
                least = [z for z in found if found <= ends[z]]
                table[(one, other)] = least[0] if least else None
        JOINS[(places, pairs)] = table
    return JOINS[(places, pairs)]


def slow_join(order, one, other):
    return joins_of(order.places, order.pairs)[(one, other)]


def slow_meet(order, one, other):
    return joins_of(order.places, tuple((y, x) for x, y in order.pairs))[(one, other)]


def lesser_first(order):
    return list(itertools.combinations(order.places, 2))


def slow_lattice(order):
    return not any(
        slow_join(order, *pair) is None or slow_meet(order, *pair) is None for pair in lesser_first(order))


def slow_lattice_paper(order, value):
    if slow_lattice(order):
        table = {pair: (slow_join(order, *pair), slow_meet(order, *pair)) for pair in lesser_first(order)}
        return isinstance(value, tuple) and len(value) == 2 and value[0] == "lattice" and isinstance(
            value[1], dict) and set(value[1]) == set(table) and all(same(value[1][key], table[key]) for key in table)
    if not isinstance(value, tuple) or len(value) != 4 or value[0] != "none":
        return False
    if not any(same(value[2:], pair) for pair in lesser_first(order)):
        return False
    return value[1] in ("join", "meet") and (slow_join if value[1] == "join" else slow_meet)(
        order, value[2], value[3]) is None


def slow_five(order, value):
    if not isinstance(value, tuple) or len(value) != 5 or not all(isinstance(name, str) for name in value):
        return False
    if not all(name in order.places for name in value) or len(set(value)) < 5:
        return False
    low, first, second, third, high = value

    def is_beside(one, other):
        return (one, other) not in order.pairs and (other, one) not in order.pairs

    def has_ends(one, other):
        return slow_meet(order, one, other) == low and slow_join(order, one, other) == high

    if not is_beside(first, third) or not is_beside(second, third):
        return False
    if not has_ends(first, third) or not has_ends(second, third):
        return False
    return (first, second) in order.pairs or is_beside(first, second) and has_ends(first, second)


def slow_split(order):
    """Whether joins and meets go over one another."""
    return all(
        slow_meet(order, x, slow_join(order, y, z)) == slow_join(order, slow_meet(order, x, y), slow_meet(order, x, z))
        for x in order for y in order for z in order)


def slow_split_paper(order, value):
    if not isinstance(value, tuple) or not value:
        return False
    if len(value) == 2 and value[0] == "five":
        return slow_five(order, value[1])
    if len(value) != 3 or value[0] != "lots" or not isinstance(value[1], Order) or not isinstance(value[2], dict):
        return False
    if len(value[1]) > 7:
        return False
    lots, table = slow_closed_lots(value[1]), value[2]
    if set(table) != set(order.places) or not all(any(same(table[place], lot) for lot in lots) for place in table):
        return False
    return sorted(table.values()) == list(lots) and all(
        (set(table[one]) < set(table[other])) == ((one, other) in order.pairs) for one in order for other in order)


def lattices():
    return [order for order in small_orders() + five_orders() if slow_lattice(order)]


class BoundTest(unittest.TestCase):
    def test_joins_and_meets(self):
        for order in small_orders() + five_orders(13) + spread_orders():
            for one in order:
                for other in order:
                    self.assertEqual(join(order, one, other), slow_join(order, one, other))
                    self.assertEqual(meet(order, one, other), slow_meet(order, one, other))

    def test_lowest_and_highest(self):
        for order in small_orders() + spread_orders():
            low = [x for x in order if all(x == y or (x, y) in order.pairs for y in order)]
            high = [x for x in order if all(x == y or (y, x) in order.pairs for y in order)]
            self.assertEqual(lowest(order), low[0] if low else None)
            self.assertEqual(highest(order), high[0] if high else None)
        self.assertEqual((lowest(ONE), highest(ONE)), ("a", "a"))

    def test_one_step(self):
        for order in small_orders() + spread_orders():
            self.assertEqual(one_down(order), tuple(p for p in order if sum(y == p for _, y in order.steps) == 1))
            self.assertEqual(one_up(order), tuple(p for p in order if sum(x == p for x, _ in order.steps) == 1))

    def test_wrong_arguments(self):
        for call in (join, meet):
            check_cases(self, call, order_case(ZIG), place_case(ZIG, "a"), place_case(ZIG, "d"))
            self.assertEqual(call(ZIG, "a", "a"), "a")
        for call in (lowest, highest, one_down, one_up, is_lattice, lattice_paper):
            check_cases(self, call, order_case(SQUARE))


class LatticeTest(unittest.TestCase):
    def test_is_lattice(self):
        for order in small_orders() + five_orders(3) + spread_orders() + six_and_seven():
            self.assertIs(is_lattice(order), slow_lattice(order))

    def test_papers(self):
        for order in small_orders() + five_orders(17) + spread_orders() + six_and_seven():
            paper = lattice_paper(order)
            self.assertTrue(slow_lattice_paper(order, paper), paper)
            self.assertIs(is_lattice_paper(order, paper), True)
            if paper[0] == "lattice":
                self.assertEqual(list(paper[1]), lesser_first(order))
        self.assertEqual(lattice_paper(ONE), ("lattice", {}))
        self.assertIs(is_lattice_paper(ONE, ("lattice", {})), True)

    def test_keys_in_any_order(self):
        paper = lattice_paper(SQUARE)
        turned = {key: paper[1][key] for key in list(paper[1])[::-1]}
        self.assertIs(is_lattice_paper(SQUARE, ("lattice", turned)), True)

    def test_bars_made_by_hand(self):
        for order in small_orders():
            for one in order:
                for other in order:
                    for word in ("join", "meet", "none", None, True):
                        value = ("none", word, one, other)
                        self.assertIs(is_lattice_paper(order, value), slow_lattice_paper(order, value))

    def test_spoilt_papers(self):
        for order in (ONE, TWO, SQUARE, VEE, CROWN, FLAT, ZIG, PENT):
            check_spoilt(
                self, lambda value: is_lattice_paper(order, value), lambda value: slow_lattice_paper(order, value),
                lattice_paper(order))

    def test_judge_takes_all_values(self):
        for order in EXAMPLES:
            check_judge(self, lambda value: is_lattice_paper(order, value))
        check_cases(self, is_lattice_paper, order_case(VEE), free_case(None))

    def test_many_places(self):
        self.assertIs(is_lattice(FORTY), True)
        self.assertIs(is_lattice(FLAT_FORTY), False)
        self.assertEqual(len(lattice_paper(FORTY)[1]), 780)
        self.assertIs(is_lattice_paper(FORTY, lattice_paper(FORTY)), True)
        self.assertEqual((lowest(FORTY), highest(FORTY)), (NAMES[0], FORTY.tops[0]))


class SplitTest(unittest.TestCase):
    def test_does_split(self):
        for order in lattices() + six_and_seven():
            if len(order) < 2:
                continue
            self.assertIs(does_split(order), slow_split(order))
            paper = split_paper(order)
            self.assertEqual(paper[0], "lots" if slow_split(order) else "five")
            self.assertTrue(slow_split_paper(order, paper), paper)
            self.assertIs(is_split_paper(order, paper), True)
            fives = [row for row in itertools.permutations(order.places, 5) if slow_five(order, row)]
            self.assertEqual(bool(fives), not slow_split(order))
            if paper[0] == "lots":
                self.assertEqual(list(paper[2]), list(order.places))

    def test_fives_made_by_hand(self):
        for order in (PENT, DIAMOND, SQUARE >> ONE.renamed({"a": "x"}), WITHIN, six_and_seven()[-1]):
            for row in itertools.permutations(order.places, 5):
                self.assertIs(is_split_paper(order, ("five", row)), slow_five(order, row), row)
            for row in itertools.product(order.places[-5:], repeat=5):
                self.assertIs(is_split_paper(order, ("five", row)), slow_five(order, row), row)

    def test_inner_orders(self):
        for order in [order for order in lattices() + six_and_seven() if len(order) > 1 and slow_split(order)]:
            inner = order.within(one_down(order))
            table = {place: tuple(
                name for name in inner if name == place or (name, place) in order.pairs) for place in order}
            self.assertIs(is_split_paper(order, ("lots", inner, table)), True)
            self.assertEqual(len(one_up(order)), len(inner))
            for chain in chains_up(order):
                self.assertEqual(len(chain), len(inner) + 1)
            other = {place: "x" + place for place in inner}
            names = {place: tuple(other[name] for name in table[place]) for place in order}
            self.assertIs(is_split_paper(order, ("lots", inner.renamed(other), names)), True)
            self.assertIs(is_split_paper(order, ("lots", inner.renamed(other), table)), False)
            self.assertIs(is_split_paper(order, ("lots", ~inner, table)), inner == ~inner)

    def test_each_naming_of_an_inner_order(self):
        for order in (SQUARE, lots_order(VEE, names_for(5)), Order.chain(("c", "b", "a"))):
            inner = split_paper(order)[1]
            for inner in [inner, inner + Order(("zz",)), inner.without(inner.places[0]), Order.flat(inner.places)]:
                lots = slow_closed_lots(inner)
                for row in itertools.permutations(lots[:6], min(len(lots[:6]), len(order))):
                    value = ("lots", inner, dict(zip(order.places, row)))
                    self.assertIs(is_split_paper(order, value), slow_split_paper(order, value))

    def test_spoilt_papers(self):
        for order in (TWO, SQUARE, PENT, DIAMOND, six_and_seven()[0]):
            check_spoilt(
                self, lambda value: is_split_paper(order, value), lambda value: slow_split_paper(order, value),
                split_paper(order))

    def test_inner_orders_with_many_closed_lots(self):
        for inner in (BOOLEAN, FORTY, FLAT_FORTY):
            table = {place: (inner.firsts[:k]) for k, place in enumerate(SQUARE)}
            self.assertIs(is_split_paper(SQUARE, ("lots", inner, table)), False)

    def test_judge_takes_all_values(self):
        for order in (SQUARE, PENT, TWO):
            check_judge(self, lambda value: is_split_paper(order, value))
            check_judge(self, lambda value: is_split_paper(order, ("five", value)))
            for value in ODD_VALUES:
                for other in (SQUARE, value):
                    told = is_split_paper(order, ("lots", other, value))
                    self.assertIs(told, False, repr(value))

    def test_no_lattices(self):
        cases = [order_case(SQUARE), free_case(None)]
        check_cases(self, does_split, cases[0])
        check_cases(self, split_paper, cases[0])
        check_cases(self, is_split_paper, *cases)
        for bad in (ONE, VEE, ZIG, CROWN, FLAT, ~VEE, FLAT_FORTY):
            for call in (does_split, split_paper, lambda order: is_split_paper(order, ("five", ()))):
                with self.assertRaises(InvalidOperation):
                    call(bad)

    def test_many_places(self):
        for order, many in ((BOOLEAN, 5), (FORTY, 7)):
            paper = split_paper(order)
            self.assertEqual((paper[0], len(paper[1])), ("lots", many))
            self.assertIs(is_split_paper(order, paper), True)
            self.assertIs(does_split(order), True)
        wide = with_pairs(FLAT_FORTY, [(NAMES[0], name) for name in NAMES[1:]])
        wide = with_pairs(wide, [(name, NAMES[39]) for name in NAMES[1:39]])
        self.assertIs(does_split(wide), False)
        self.assertIs(is_split_paper(wide, split_paper(wide)), True)
        self.assertIs(is_split_paper(wide, ("five", (NAMES[0],) + NAMES[7:10] + (NAMES[39],))), True)


class LotsOrderTest(unittest.TestCase):
    def test_lots_order(self):
        chance = random.Random(5)
        for order in small_orders() + spread_orders()[4:]:
            lots = slow_closed_lots(order)
            if len(lots) > 40:
                continue
            names = list(names_for(len(lots)))
            chance.shuffle(names)
            made = lots_order(order, tuple(names))
            self.assertIs(type(made), Order)
            self.assertEqual(made.places, tuple(sorted(names)))
            name = dict(zip(lots, names))
            self.assertEqual(made.pairs, tuple(sorted(
                (name[one], name[other]) for one in lots for other in lots if set(one) < set(other))))
            self.assertIs(does_split(made), True)
            table = dict(zip(names, lots))
            self.assertIs(is_split_paper(made, ("lots", order, table)), True)

    def test_inner_order_of_the_closed_lots(self):
        for order in small_orders(3):
            made = lots_order(order, names_for(len(closed_lots(order))))
            paper = split_paper(made)
            self.assertEqual(len(paper[1]), len(order))
            self.assertEqual(len(closed_lots(paper[1])), len(closed_lots(order)))

    def test_wrong_arguments(self):
        no_names = odd_but(lambda value: isinstance(value, tuple) and value in (("a", "b"), ("b", "a"), ("a", "z"))) + [
            ("a", "b", "c"), ["a", "b"], ("a", "abcdefghi"), ("a", "B")]
        check_cases(self, lots_order, Case(ONE, NO_ORDERS, InvalidOrder), Case(("x", "y"), no_names, InvalidOperation))
        for bad in (names_for(7), names_for(9), list(names_for(8)), names_for(7) + names_for(1), names_for(7) + ("A",)):
            with self.assertRaises(InvalidOperation):
                lots_order(ZIG, bad)

    def test_too_many(self):
        self.assertEqual(len(lots_order(Order.chain(SEVEN), names_for(8))), 8)
        self.assertEqual(len(FORTY), 40)
        bigger = Order.flat(SEVEN[:4]) + Order.chain(("x", "y"))
        for order in (bigger, Order.flat(SEVEN[:6]), Order.flat(SEVEN), BOOLEAN, FORTY, FLAT_FORTY):
            for names in (names_for(48), names_for(41), (), None, ODD_VALUES):
                check_too_many(self, lots_order, order, names, limit=40)
        # The order of FORTY has forty closed lots, with a place ahead of all others 41.
        row = NAMES[:8]
        just_41 = with_pairs(FLAT_FORTY.within(row), [(row[7], name) for name in row[:7]] + list(zip(row[3:7], row[4:7])))
        self.assertEqual(len(closed_lots(just_41)), 41)
        check_too_many(self, lots_order, just_41, names_for(41), limit=40)
        self.assertEqual(len(lots_order(just_41.without(row[7]), NAMES)), 40)


if __name__ == "__main__":
    unittest.main()
