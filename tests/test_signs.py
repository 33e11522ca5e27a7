"""Signs and crosscuts [10.1] to [10.5]."""

import itertools
import random
import unittest

from downsets.back.lattices import highest, is_lattice, join, lots_order, lowest, meet
from downsets.base.lots import chains_up, closed_lots
from downsets.base.orders import Order
from downsets.errors import InvalidLot, InvalidOperation, InvalidOrder, UnknownPlace
from downsets.maps.lines import weak_number
from downsets.maps.signs import (
    chain_numbers, closed_sign, crosscut_lots, crosscut_sign, is_crosscut, sign, signs, summed, turned_back,
    whole_chains, whole_sign)
from tests.helper import (
    BOOLEAN, CHAIN_FORTY, CROWN, EXAMPLES, FLAT, FLAT_FORTY, FORTY, JUST_4001, NAMES, ODD_VALUES, ONE, PAIRS, PENT,
    SEVEN, SQUARE, VEE, ZIG, Case, all_lots, check_cases, check_error, check_judge, check_spoilt, check_too_many,
    closed_case, five_orders, free_case, names_for, no_closed, no_lots, no_number_dicts, odd_but, order_case,
    place_case, same, slow_chain, slow_closed_lots, slow_flat, small_orders, spread_orders, with_pairs)

SMALL = small_orders()
SOME = SMALL + five_orders(29) + spread_orders()
KITE = Order.flat(("o",)) >> FLAT >> Order.flat(("z",))


def fan(many):
    """A lattice order with so many places between its lowest and its highest one."""
    names = NAMES[:many + 2]
    pairs = [(names[0], name) for name in names[1:]] + [(name, names[-1]) for name in names[1:-1]]
    return with_pairs(FLAT_FORTY.within(names), pairs)


def slow_numbers(order, low, high):
    """The numbers of chains from one place to another, by all lots."""
    at_most = [place for place in order if place in (low, high) or (
        (low, place) in order.pairs and (place, high) in order.pairs)]
    if low != high and (low, high) not in order.pairs:
        return ()
    lots = [lot for lot in all_lots(at_most) if low in lot and high in lot and slow_chain(order, lot)]
    sizes = [len(lot) - 1 for lot in lots]
    return tuple(sizes.count(k) for k in range(max(sizes) + 1))


def slow_sign(order, low, high):
    return sum((-1) ** k * many for k, many in enumerate(slow_numbers(order, low, high)))


def pairs_up(order):
    return [(x, y) for x in order for y in order if x == y or (x, y) in order.pairs]


def slow_whole(order):
    sizes = [len(lot) for lot in all_lots(order.places) if slow_chain(order, lot)]
    return tuple(sizes.count(k) for k in range(max(sizes) + 1))


def slow_closed_signs(lots):
    """The signs of two lots of a family, by the rule that they sum to 0."""
    told = {}
    for low in sorted(lots, key=len):
        for high in sorted(lots, key=len):
            if low == high:
                told[(low, high)] = 1
            elif set(low) < set(high):
                told[(low, high)] = -sum(
                    told[(low, lot)] for lot in lots if set(low) <= set(lot) and set(lot) < set(high))
            else:
                told[(low, high)] = 0
    return told


def lattices():
    """Lattice orders of three places and more."""
    found = [order for order in SMALL + five_orders() if len(order) > 2 and is_lattice(order)]
    found += [
        KITE, PENT, SQUARE >> Order(("x",)), lots_order(VEE + Order(("z",)), names_for(10)), KITE >> Order(("zz",)),
        lots_order(Order.flat(("a", "b", "c")), names_for(8)[::-1]), lots_order(ZIG, names_for(8)),
        Order.flat(("s",)) >> (SQUARE + Order(("x",))) >> Order.flat(("u",)), Order.chain(("c", "a", "b"))]
    return found


def slow_crosscut(order, value):
    if not isinstance(value, tuple) or not any(same(value, lot) for lot in all_lots(order.places)):
        return False
    if not slow_flat(order, value) or lowest(order) in value or highest(order) in value:
        return False
    return all(set(value) & set(chain) for chain in chains_up(order))


def bound_of(order, call, places, start):
    for place in places:
        start = call(order, start, place)
    return start


def slow_crosscut_lots(order, crosscut):
    counts = [0] * (len(crosscut) + 1)
    for lot in all_lots(crosscut):
        ends = (bound_of(order, join, lot, lowest(order)), bound_of(order, meet, lot, highest(order)))
        counts[len(lot)] += ends == (highest(order), lowest(order))
    return tuple(counts)


class SignTest(unittest.TestCase):
    def test_against_slow_ones(self):
        for order in SOME:
            told = signs(order)
            self.assertEqual(list(told), sorted(pairs_up(order)))
            for low, high in itertools.product(order.places, repeat=2):
                self.assertEqual(chain_numbers(order, low, high), slow_numbers(order, low, high))
                self.assertEqual(sign(order, low, high), slow_sign(order, low, high))
                self.assertEqual(told.get((low, high), 0), slow_sign(order, low, high))

    def test_edges(self):
        self.assertEqual((signs(ONE), sign(ONE, "a", "a"), chain_numbers(ONE, "a", "a")), ({("a", "a"): 1}, 1, (1,)))
        self.assertEqual(signs(FLAT), {(place, place): 1 for place in FLAT})
        self.assertEqual((sign(FLAT, "a", "b"), chain_numbers(FLAT, "a", "b")), (0, ()))
        self.assertEqual((sign(VEE, "b", "a"), chain_numbers(VEE, "b", "a")), (0, ()))
        chain = Order.chain(SEVEN)
        self.assertEqual(chain_numbers(chain, "a", "g"), (0, 1, 5, 10, 10, 5, 1))
        self.assertEqual([sign(chain, "a", name) for name in SEVEN], [1, -1, 0, 0, 0, 0, 0])

    def test_many_places(self):
        self.assertEqual(sign(BOOLEAN, *BOOLEAN.firsts, *BOOLEAN.tops), -1)
        self.assertEqual(sum(signs(BOOLEAN).values()), 1)
        self.assertEqual(sum(map(abs, signs(BOOLEAN).values())), 3 ** 5)
        self.assertEqual(chain_numbers(BOOLEAN, *BOOLEAN.firsts, *BOOLEAN.tops), (0, 1, 30, 150, 240, 120))
        self.assertEqual(sum(chain_numbers(CHAIN_FORTY, NAMES[39], NAMES[0])), 2 ** 38)
        self.assertEqual(signs(FLAT_FORTY), {(name, name): 1 for name in NAMES})
        self.assertEqual(sign(fan(38), NAMES[0], NAMES[39]), 37)


class SumTest(unittest.TestCase):
    def test_sums(self):
        chance = random.Random(10)
        for order in SOME + [BOOLEAN, FORTY, FLAT_FORTY, CHAIN_FORTY]:
            numbers = {place: chance.choice((0, 1, -1, 7, -50, 999999999999)) for place in order}
            sums = summed(order, numbers)
            if len(order) < 10:
                self.assertEqual(sums, {
                    y: sum(numbers[x] for x in order if x == y or (x, y) in order.pairs) for y in order})
                for y in order:
                    self.assertEqual(numbers[y], sum(
                        sums[x] * slow_sign(order, x, y) for x in order if x == y or (x, y) in order.pairs))
            self.assertEqual(turned_back(order, sums), numbers)
            self.assertEqual(summed(order, turned_back(order, numbers)), numbers)
            self.assertEqual(list(sums), list(order.places))
            self.assertEqual(list(turned_back(order, sums)), list(order.places))

    def test_keys_in_any_order(self):
        numbers = {"c": 3, "a": 1, "b": 2}
        self.assertEqual(list(summed(VEE, numbers).items()), [("a", 1), ("b", 3), ("c", 4)])
        self.assertEqual(list(turned_back(VEE, numbers).items()), [("a", 1), ("b", 1), ("c", 2)])
        self.assertEqual(numbers, {"c": 3, "a": 1, "b": 2})
        self.assertEqual(summed(ONE, {"a": -5}), {"a": -5})


class ClosedSignTest(unittest.TestCase):
    def test_closed_signs(self):
        for order in SMALL + spread_orders()[-1:]:
            told = slow_closed_signs(slow_closed_lots(order))
            for lot, other in told:
                self.assertEqual(closed_sign(order, lot, other), told[(lot, other)])
            self.assertEqual(closed_sign(order, (), order.places), weak_number(order, -1))

    def test_whole_sign_of_more_places(self):
        for order in five_orders(9) + spread_orders():
            self.assertEqual(closed_sign(order, (), order.places), weak_number(order, -1))

    def test_signs_of_the_order_of_closed_lots(self):
        for order in SMALL[::7]:
            lots = closed_lots(order)
            names = names_for(len(lots))
            told = signs(lots_order(order, names))
            for (k, lot), (at, other) in itertools.product(enumerate(lots), repeat=2):
                self.assertEqual(closed_sign(order, lot, other), told.get((names[k], names[at]), 0))

    def test_many_places(self):
        self.assertEqual(closed_sign(FLAT_FORTY, (), NAMES), 1)
        self.assertEqual(closed_sign(FLAT_FORTY, (), NAMES[1:]), -1)
        self.assertEqual(closed_sign(FLAT_FORTY, NAMES[:3], NAMES[1:]), 0)
        self.assertEqual(closed_sign(BOOLEAN, BOOLEAN.places, BOOLEAN.places), 1)
        self.assertEqual(closed_sign(BOOLEAN, (), BOOLEAN.places), 0)
        self.assertEqual(closed_sign(BOOLEAN, BOOLEAN.places, ()), 0)


class WholeTest(unittest.TestCase):
    def test_against_slow_ones(self):
        for order in SOME:
            told = slow_whole(order)
            self.assertEqual(whole_chains(order), told)
            whole = -1 + sum(told[1::2]) - sum(told[2::2])
            self.assertEqual(whole_sign(order), whole)
            self.assertEqual(whole_sign(~order), whole)
            if lowest(order) or highest(order):
                self.assertEqual(whole, 0)

    def test_sign_between_two_new_places(self):
        for order in SMALL:
            wide = Order.flat(("zx",)) >> order >> Order.flat(("zz",))
            self.assertEqual(whole_sign(order), sign(wide, "zx", "zz"))

    def test_two_orders(self):
        for one in small_orders(3):
            for other in small_orders(3):
                other = other.renamed({place: "x" + place for place in other})
                self.assertEqual(whole_sign(one + other), whole_sign(one) + whole_sign(other) + 1)
                self.assertEqual(whole_sign(one >> other), -whole_sign(one) * whole_sign(other))

    def test_many_places(self):
        self.assertEqual((whole_chains(FLAT_FORTY), whole_sign(FLAT_FORTY)), ((1, 40), 39))
        self.assertEqual((sum(whole_chains(CHAIN_FORTY)), whole_sign(CHAIN_FORTY)), (2 ** 40, 0))
        self.assertEqual((whole_chains(ONE), whole_sign(ONE)), ((1, 1), 0))
        self.assertEqual(whole_sign(BOOLEAN.without(BOOLEAN.firsts[0]).without(BOOLEAN.tops[0])), -1)


class CrosscutTest(unittest.TestCase):
    def test_all_lots(self):
        for order in lattices():
            found = [lot for lot in all_lots(order.places) if slow_crosscut(order, lot)]
            self.assertTrue(found)
            for lot in all_lots(order.places):
                self.assertIs(is_crosscut(order, lot), lot in found)
            for lot in found:
                told = crosscut_lots(order, lot)
                self.assertEqual(told, slow_crosscut_lots(order, lot))
                self.assertEqual(crosscut_sign(order, lot), sum(told[::2]) - sum(told[1::2]))
                self.assertEqual(crosscut_sign(order, lot), sign(order, lowest(order), highest(order)))

    def test_spoilt_crosscuts(self):
        for order, lot in ((SQUARE, ("b", "c")), (PENT, ("a", "c")), (Order.chain(("c", "a", "b")), ("a",))):
            check_spoilt(
                self, lambda value: is_crosscut(order, value), lambda value: slow_crosscut(order, value), lot)
        for order in (SQUARE, PENT, KITE):
            check_judge(self, lambda value: is_crosscut(order, value))
            for bad in no_lots(order):
                self.assertIs(is_crosscut(order, bad), False, repr(bad))

    def test_three_places(self):
        order = Order.chain(("c", "a", "b"))
        self.assertEqual([lot for lot in all_lots(order.places) if is_crosscut(order, lot)], [("a",)])
        self.assertEqual((crosscut_lots(order, ("a",)), crosscut_sign(order, ("a",))), ((0, 0), 0))

    def test_many_places(self):
        firsts = BOOLEAN.up(BOOLEAN.firsts[0])
        middle = tuple(place for place in BOOLEAN if len(BOOLEAN.ahead(place)) == 3)
        for lot in (firsts, middle):
            self.assertIs(is_crosscut(BOOLEAN, lot), True)
            self.assertEqual(crosscut_sign(BOOLEAN, lot), -1)
        self.assertEqual(crosscut_lots(BOOLEAN, firsts), (0, 0, 0, 0, 0, 1))
        self.assertIs(is_crosscut(BOOLEAN, middle[1:]), False)
        self.assertEqual(crosscut_sign(FORTY, tuple(sorted(FORTY.up(FORTY.firsts[0])))), 0)
        twelve = fan(12)
        self.assertEqual(crosscut_lots(twelve, NAMES[1:13])[:4], (0, 0, 66, 220))
        self.assertEqual(crosscut_sign(twelve, NAMES[1:13]), 11)

    def test_more_than_twelve_places(self):
        for many in (13, 38):
            order = fan(many)
            lot = NAMES[1:many + 1]
            self.assertIs(is_crosscut(order, lot), True)
            for call in (crosscut_lots, crosscut_sign):
                check_too_many(self, call, order, lot, limit=12)
                for bad in (lot[1:], lot[::-1], list(lot), NAMES[:many + 2], None):
                    check_error(self, call, [order, bad], Case(lot, [], InvalidOperation), bad)


class WrongArgumentsTest(unittest.TestCase):
    def test_places(self):
        for call in (sign, chain_numbers):
            check_cases(self, call, order_case(ZIG), place_case(ZIG, "a"), place_case(ZIG, "c"))
            check_cases(self, call, order_case(ONE), place_case(ONE, "a"), place_case(ONE, "a"))
            for bad in (None, "zzz"):
                check_error(self, call, [ZIG, bad, bad], Case("", [], UnknownPlace, "place"), bad)
        for call in (signs, whole_chains, whole_sign):
            check_cases(self, call, order_case(ZIG))

    def test_numbers(self):
        for call in (summed, turned_back):
            for order in (ZIG, ONE, PAIRS):
                numbers = {place: -3 for place in order}
                check_cases(
                    self, call, order_case(order), Case(numbers, no_number_dicts(order), InvalidOperation))

    def test_closed_lots(self):
        for order, lot in ((ZIG, ("a", "b", "c")), (ONE, ())):
            check_cases(self, closed_sign, order_case(order), closed_case(order, lot), closed_case(order, order.places))
        for bad in no_closed(ZIG):
            check_error(self, closed_sign, [ZIG, bad, ("c",)], Case(None, [], InvalidLot), bad)

    def test_no_lattices(self):
        check_cases(self, is_crosscut, order_case(SQUARE), free_case(None))
        no_crosscuts = odd_but(lambda value: isinstance(value, tuple) and value == ("b", "c")) + [
            ("c", "b"), ["b", "c"], ("b",), ("a",), ("a", "b", "c"), ("d",), ("b", "c", "d")]
        for call in (crosscut_lots, crosscut_sign):
            check_cases(self, call, order_case(SQUARE), Case(("b", "c"), no_crosscuts, InvalidOperation))
        for bad in (ONE, Order.chain(("b", "a")), VEE, ZIG, CROWN, FLAT, PAIRS, ~VEE, FLAT_FORTY, JUST_4001):
            for call in (is_crosscut, crosscut_lots, crosscut_sign):
                for value in ODD_VALUES + (bad.places[:1], NAMES[:14]):
                    with self.assertRaises(InvalidOperation):
                        call(bad, value)
        for call in (is_crosscut, crosscut_lots, crosscut_sign):
            with self.assertRaises(InvalidOrder):
                call(None, ("b", "c"))

    def test_each_example(self):
        for order in EXAMPLES:
            self.assertEqual(whole_chains(order)[:2], (1, len(order)))
            self.assertEqual(sum(many for (x, y), many in signs(order).items() if x == y), len(order))


if __name__ == "__main__":
    unittest.main()
