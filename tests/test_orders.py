"""Orders [0.1] to [0.4], [0.7], [0.8], [0.10], [2.1]."""

import itertools
import re
import unittest

from downsets.base import orders
from downsets.base.orders import Order
from downsets.errors import Circle, InvalidLot, InvalidOperation, InvalidOrder, UnknownPlace
from tests.helper import (
    BOOLEAN, CROWN, EXAMPLES, FLAT, FLAT_FORTY, FORTY, NAMES, NO_ORDERS, ODD_VALUES, ONE, PAIRS, SEVEN, SQUARE, VEE,
    ZIG, Case, all_lots, all_orders, check_cases, lot_case, no_lots, odd_but, place_case, same, small_orders,
    spread_orders, with_pairs)

def is_places(value):
    return isinstance(value, tuple) and 0 < len(value) < 8 and are_places(value) and len(set(value)) == len(value)


def are_places(value):
    return all(isinstance(name, str) and re.fullmatch("[a-z]{1,8}", name) for name in value)


NO_PLACES = odd_but(is_places) + [
    SEVEN + ("h",), list(SEVEN), "abc", ("a", "B"), ("a", "b", "a"), ("a", ""), ("abcdefghi",), ("a", 1),
    ("a", ("b",)), ("a\n",), ("a", "b", None)]
NO_PAIR = [value for value in ODD_VALUES if value not in (("a", "b"), ("b", "a"))] + [
    ("a", "b", "c"), ("c", "c"), ("z", "a"), ["a", "c"], ("b", None), ("a", "B"), ("a", ("b",))]
NO_PAIRS = odd_but(lambda value: same(value, ()) or value == (("a", "b"),)) + [
    (bad,) for bad in NO_PAIR] + [[("a", "b")], (("a", "b"), None)]


def followed(pairs):
    """All pairs that follow from some, found slowly."""
    found = set(pairs)
    while True:
        more = {(w, z) for w, x in found for y, z in found if x == y} - found
        if not more:
            return found
        found |= more


def shortest_length(places, pairs):
    """The length of a shortest circle, found slowly."""
    for many in range(2, len(places) + 1):
        for row in itertools.permutations(places, many):
            if all((row[k - 1], row[k]) in pairs for k in range(many)):
                return many
    return None


class MakingTest(unittest.TestCase):
    def test_constants(self):
        self.assertEqual((orders.MAX_PLACES, orders.MAX_MADE), (7, 40))

    def test_places_in_any_order(self):
        for row in itertools.permutations("abcd"):
            order = Order(row, (("b", "d"), ("a", "c"), ("b", "c"), ("a", "c")))
            self.assertTrue(order == ZIG)
            self.assertEqual(order.places, ("a", "b", "c", "d"))

    def test_all_that_follows(self):
        for order in small_orders(3):
            for told in itertools.product((0, 1), repeat=len(order.pairs)):
                some = tuple(pair for pair, does in zip(order.pairs, told) if does)
                made = Order(order.places, some + some[::-1])
                self.assertEqual(set(made.pairs), followed(some))
        places = tuple("dacb")
        self.assertEqual(Order(places, (("d", "a"), ("c", "b"), ("a", "c"))).pairs,
                         (("a", "b"), ("a", "c"), ("c", "b"), ("d", "a"), ("d", "b"), ("d", "c")))

    def test_one_and_seven_places(self):
        self.assertEqual((ONE.places, ONE.pairs, ONE.steps, ONE.firsts, ONE.tops), (("a",), (), (), ("a",), ("a",)))
        self.assertEqual((ONE.is_flat, ONE.is_chain, len(ONE)), (True, True, 1))
        self.assertEqual(len(Order(SEVEN)), 7)
        self.assertEqual(len(Order.chain(SEVEN).pairs), 21)
        self.assertEqual(Order(("abcdefgh",)).places, ("abcdefgh",))

    def test_wrong_places(self):
        for bad in NO_PLACES:
            for call in (Order, Order.flat, Order.chain, lambda value: Order(value, ()),
                         lambda value: Order(value, None), lambda value: Order(value, (("a", "b"), ("b", "a")))):
                with self.assertRaises(InvalidOrder, msg=repr(bad)):
                    call(bad)

    def test_wrong_pairs(self):
        for bad in NO_PAIRS:
            with self.assertRaises(InvalidOrder, msg=repr(bad)):
                Order(("a", "b", "c"), bad)
        # The error of the pairs comes ahead of that of a circle.
        for bad in NO_PAIR:
            with self.assertRaises(InvalidOrder, msg=repr(bad)):
                Order(("a", "b", "c"), (("a", "b"), ("b", "a"), bad))

    def test_circles_of_three_places(self):
        places = ("a", "b", "c")
        spots = tuple(itertools.permutations(places, 2))
        for told in itertools.product((0, 1), repeat=6):
            self.check_circle(places, tuple(spot for spot, does in zip(spots, told) if does))

    def test_circles_of_all_lengths(self):
        for many in range(2, 8):
            row = SEVEN[:many]
            circle = tuple(zip(row, row[1:] + row[:1]))
            self.check_circle(SEVEN, circle)
            self.check_circle(SEVEN, circle[::-1] + tuple(("a", name) for name in SEVEN[many:]))
            self.check_circle(SEVEN, circle + (("e", "f"), ("f", "g"), ("g", "e")))
            self.check_circle(SEVEN[::-1], (("f", "g"), ("g", "f")) + circle)

    def check_circle(self, places, pairs):
        many = shortest_length(places, pairs)
        if many is None:
            self.assertEqual(len(Order(places, pairs)), len(places))
            return
        with self.assertRaises(Circle) as caught:
            Order(places, pairs)
        circle = caught.exception.circle
        self.assertIs(type(circle), tuple)
        self.assertEqual((len(circle), len(set(circle))), (many, many))
        for k in range(many):
            self.assertIn((circle[k - 1], circle[k]), pairs)

    def test_flat_and_chain(self):
        self.assertEqual(Order.flat(("b", "a")).pairs, ())
        self.assertEqual(Order.chain(("c", "a", "b")).pairs, (("a", "b"), ("c", "a"), ("c", "b")))
        for many in range(1, 8):
            row = SEVEN[:many][::-1]
            self.assertEqual(Order.chain(row).pairs, tuple(sorted(
                (row[k], row[at]) for k in range(many) for at in range(k + 1, many))))
            self.assertIs(Order.chain(row).is_chain, True)
            self.assertIs(Order.flat(row).is_flat, True)
            self.assertIs(Order.flat(row).is_chain, many == 1)
            self.assertIs(Order.chain(row).is_flat, many == 1)

    def test_nothing_gives_access(self):
        places = ["a", "b"]
        order = Order(tuple(places))
        places[0] = "z"
        self.assertEqual(order.places, ("a", "b"))
        for value in (order.places, order.pairs, order.steps, order.firsts, order.tops):
            self.assertIs(type(value), tuple)
        for name in ("places", "pairs", "steps", "firsts", "tops", "is_flat", "is_chain"):
            with self.assertRaises(AttributeError):
                setattr(order, name, ())


class ReadingTest(unittest.TestCase):
    def test_properties(self):
        for order in small_orders() + spread_orders():
            pairs = set(order.pairs)
            self.assertEqual(order.pairs, tuple(sorted(pairs)))
            steps = [(x, z) for x, z in order.pairs if not any((x, y) in pairs and (y, z) in pairs for y in order)]
            self.assertEqual(order.steps, tuple(steps))
            self.assertEqual(order.firsts, tuple(p for p in order if not any(y == p for _, y in pairs)))
            self.assertEqual(order.tops, tuple(p for p in order if not any(x == p for x, _ in pairs)))
            self.assertIs(order.is_flat, not pairs)
            self.assertIs(order.is_chain, len(pairs) == len(order) * (len(order) - 1) // 2)

    def test_methods_of_places(self):
        for order in small_orders() + spread_orders():
            pairs = order.pairs
            for one, other in itertools.permutations(order.places, 2):
                self.assertIs(order.is_ahead(one, other), (one, other) in pairs)
                self.assertIs(order.is_beside(one, other), (one, other) not in pairs and (other, one) not in pairs)
            for place in order:
                self.assertEqual(order.ahead(place), tuple(x for x, y in pairs if y == place))
                self.assertEqual(order.behind(place), tuple(y for x, y in pairs if x == place))
                self.assertEqual(order.down(place), tuple(x for x, y in order.steps if y == place))
                self.assertEqual(order.up(place), tuple(y for x, y in order.steps if x == place))

    def test_steps_tell_all_pairs(self):
        for order in small_orders() + spread_orders():
            self.assertEqual(set(order.pairs), followed(order.steps))
            self.assertTrue(Order(order.places, order.steps) == order)
            for pair in order.pairs:
                is_told = followed(set(order.pairs) - {pair}) == set(order.pairs) - {pair}
                self.assertIs(is_told, pair in order.steps)

    def test_closure(self):
        for order in small_orders() + spread_orders():
            for lot in all_lots(order.places):
                early = {one for one, other in order.pairs if other in lot} | set(lot)
                late = {other for one, other in order.pairs if one in lot} | set(lot)
                self.assertEqual(order.closure(lot), tuple(sorted(early)))
                self.assertEqual(order.closure(lot, turned=False), tuple(sorted(early)))
                self.assertEqual(order.closure(lot, turned=True), tuple(sorted(late)))
                self.assertEqual((~order).closure(lot), tuple(sorted(late)))

    def test_length_text_iteration_membership(self):
        for order in EXAMPLES + (FORTY, FLAT_FORTY):
            self.assertEqual(len(order), len(order.places))
            self.assertEqual(tuple(order), order.places)
            self.assertEqual(list(order), list(order.places))
            self.assertEqual(str(order), f"order of {len(order.places)} places, {len(order.steps)} steps")
            for value in ODD_VALUES:
                self.assertIs(value in order, isinstance(value, str) and value in order.places)
        self.assertEqual(str(SQUARE), "order of 4 places, 4 steps")
        self.assertEqual(str(Order.chain(("a", "b", "c"))), "order of 3 places, 2 steps")

    def test_equality(self):
        some = small_orders(3) + list(EXAMPLES) + [BOOLEAN, FORTY, FLAT_FORTY, Order(("b",)), Order(("c", "a"))]
        some.append(VEE.renamed({"a": "x", "b": "y", "c": "z"}))
        for one in some:
            for other in some:
                is_same = one.places == other.places and one.pairs == other.pairs
                self.assertIs(one == other, is_same)
                self.assertIs(one != other, not is_same)
        for value in ODD_VALUES:
            if not isinstance(value, Order):
                self.assertIs(ZIG == value, False)
                self.assertIs(ZIG != value, True)
                self.assertIs(value == ZIG, False)


class ChangingTest(unittest.TestCase):
    def check_order(self, order, places, pairs):
        self.assertIs(type(order), Order)
        self.assertEqual(order.places, tuple(sorted(places)))
        self.assertEqual(order.pairs, tuple(sorted(pairs)))
        for place in order:
            self.assertEqual(order.behind(place), tuple(y for x, y in order.pairs if x == place))
            self.assertEqual(order.ahead(place), tuple(x for x, y in order.pairs if y == place))

    def test_within(self):
        for order in small_orders() + spread_orders()[:3]:
            for lot in all_lots(order.places)[1:]:
                kept = [(x, y) for x, y in order.pairs if x in lot and y in lot]
                self.check_order(order.within(lot), lot, kept)

    def test_without(self):
        for order in small_orders():
            for place in order if len(order) > 1 else ():
                lot = [name for name in order if name != place]
                self.check_order(order.without(place), lot, [pair for pair in order.pairs if place not in pair])
        with self.assertRaises(InvalidOrder):
            ONE.without("a")
        with self.assertRaises(UnknownPlace):
            ONE.without("b")

    def test_with_place(self):
        for order in small_orders():
            self.check_order(order.with_place("aa"), order.places + ("aa",), order.pairs)
            self.check_order(order.with_place("zz"), order.places + ("zz",), order.pairs)
        six = Order.flat(SEVEN[1:])
        self.check_order(six.with_place("a"), SEVEN, ())
        for order in (Order.flat(SEVEN), Order.chain(SEVEN), BOOLEAN, FORTY):
            with self.assertRaises(InvalidOrder):
                order.with_place("zz")
        for bad in ODD_VALUES:
            if not (isinstance(bad, str) and bad in ("z",)):
                with self.assertRaises(InvalidOrder):
                    Order(("a", "ab")).with_place(bad)

    def test_renamed(self):
        for order in small_orders(3):
            for row in itertools.permutations(("a", "b", "z", "oak"), len(order)):
                names = dict(zip(order.places, row))
                self.check_order(order.renamed(names), row, [(names[x], names[y]) for x, y in order.pairs])
                back = {names[name]: name for name in reversed(names)}
                self.assertTrue(order.renamed(names).renamed(back) == order)
        back = dict(zip(FORTY.places, FORTY.places[::-1]))
        self.check_order(FORTY.renamed(back), FORTY.places, [(back[x], back[y]) for x, y in FORTY.pairs])

    def test_wrong_names(self):
        bads = [bad for bad in ODD_VALUES if not same(bad, {"a": "a"})] + [
            {"a": "a", "b": "b"}, {"b": "a"}, {"a": "A"}, {"a": True}, {"a": ["a"]}, {"a": None}, {"a": ("a",)}, [("a", "a")]]
        for bad in bads:
            with self.assertRaises(InvalidOperation):
                ONE.renamed(bad)
        for bad in ({"a": "x", "b": "x"}, {"a": "x"}, {"a": "x", "z": "y"}, {"a": "x", "b": "y", "c": "z"},
                    {"a": "x", "b": "abcdefghi"}, {"a": "x", "b": ["y"]}):
            with self.assertRaises(InvalidOperation):
                Order(("a", "b")).renamed(bad)

    def test_with_pair(self):
        for order in small_orders() + spread_orders()[:2]:
            for one, other in itertools.permutations(order.places, 2):
                if (other, one) in order.pairs:
                    with self.assertRaises(InvalidOperation):
                        order.with_pair(one, other)
                else:
                    wider = followed(set(order.pairs) | {(one, other)})
                    self.check_order(order.with_pair(one, other), order.places, wider)
                    if (one, other) in order.pairs:
                        self.assertTrue(order.with_pair(one, other) == order)

    def test_without_step(self):
        for order in small_orders() + spread_orders()[:2]:
            for one, other in itertools.permutations(order.places, 2):
                if (one, other) in order.steps:
                    less = set(order.pairs) - {(one, other)}
                    self.check_order(order.without_step(one, other), order.places, less)
                else:
                    with self.assertRaises(InvalidOperation):
                        order.without_step(one, other)

    def test_turned(self):
        for order in small_orders() + [FORTY]:
            self.check_order(~order, order.places, [(y, x) for x, y in order.pairs])
            self.assertTrue(~~order == order)

    def test_beside_and_behind(self):
        for first in small_orders(3):
            for second in small_orders(3) + [Order.flat(("a", "c", "d", "b"))]:
                names = {place: "x" + place for place in second}
                other = second.renamed(names)
                both = first.pairs + other.pairs
                places = first.places + other.places
                self.check_order(first + other, places, both)
                self.check_order(other + first, places, both)
                self.check_order(first >> other, places, both + tuple((x, y) for x in first for y in other))
                self.check_order(other >> first, places, both + tuple((y, x) for x in first for y in other))

    def test_wrong_operands(self):
        five = Order.flat(("p", "q", "r", "s", "t"))
        bads = NO_ORDERS + [ONE, VEE, Order(("z", "a")), FORTY]
        for bad in bads:
            with self.assertRaises(InvalidOrder):
                VEE + bad
            with self.assertRaises(InvalidOrder):
                VEE >> bad
        self.assertEqual(len(five + Order(("a", "b"))), 7)
        self.assertEqual(len(five >> Order(("a", "b"))), 7)
        for one, other in ((five, VEE), (VEE, five), (FLAT_FORTY, ONE), (ONE, FLAT_FORTY)):
            with self.assertRaises(InvalidOrder):
                one + other
            with self.assertRaises(InvalidOrder):
                one >> other

    def test_is_part_of(self):
        for one in all_orders(3):
            for other in all_orders(3):
                self.assertIs(one.is_part_of(other), set(one.pairs) <= set(other.pairs))
        for one in all_orders(4)[::7]:
            for other in all_orders(4)[::5]:
                self.assertIs(one.is_part_of(other), set(one.pairs) <= set(other.pairs))
        for bad in NO_ORDERS + [ONE, ZIG, Order(("a", "b", "d")), FORTY]:
            with self.assertRaises(InvalidOrder):
                VEE.is_part_of(bad)
        self.assertIs(FLAT_FORTY.is_part_of(FORTY), True)
        self.assertIs(FORTY.is_part_of(FLAT_FORTY), False)

    def test_orders_of_forty_places(self):
        self.assertEqual((len(FORTY), len(FLAT_FORTY), FLAT_FORTY.is_flat), (40, 40, True))
        chain = with_pairs(FLAT_FORTY, zip(NAMES, NAMES[1:]))
        self.assertEqual((chain.is_chain, len(chain.pairs), len(chain.steps)), (True, 780, 39))
        self.assertEqual(len(chain.without(NAMES[3])), 39)
        self.check_order(FORTY.within(NAMES[5:30]), NAMES[5:30],
                         [pair for pair in FORTY.pairs if set(pair) <= set(NAMES[5:30])])

    def test_no_call_changes_the_order(self):
        order = Order(ZIG.places, ZIG.pairs)
        order.with_pair("a", "b")
        order.without_step("a", "c")
        order.with_place("z")
        order.renamed({"a": "x", "b": "y", "c": "z", "d": "w"})
        order.within(("a",))
        order.without("a")
        ~order
        order + Order(("z",))
        order >> Order(("z",))
        self.assertTrue(order == ZIG)
        self.assertEqual((order.places, order.pairs), (ZIG.places, ZIG.pairs))


class WrongArgumentsTest(unittest.TestCase):
    def test_methods_of_two_places(self):
        for name in ("is_ahead", "is_beside", "with_pair", "without_step"):
            call = getattr(CROWN, name)
            check_cases(self, call, place_case(CROWN, "a"), place_case(CROWN, "c"))
            for place in CROWN:
                with self.assertRaises(InvalidOperation):
                    call(place, place)
            with self.assertRaises(UnknownPlace) as caught:
                call("z", "z")
            self.assertEqual(caught.exception.place, "z")

    def test_methods_of_a_place(self):
        for name in ("ahead", "behind", "up", "down", "without"):
            check_cases(self, getattr(PAIRS, name), place_case(PAIRS, "a"))

    def test_closure_and_within(self):
        check_cases(self, SQUARE.within, lot_case(SQUARE, ("a", "b")))
        with self.assertRaises(InvalidLot):
            SQUARE.within(())
        no_booleans = Case(True, [bad for bad in ODD_VALUES if not isinstance(bad, bool)], InvalidOperation)
        check_cases(self, lambda lot, turned: SQUARE.closure(lot, turned=turned), lot_case(SQUARE, ("b",)), no_booleans)
        for bad in no_lots(FLAT):
            with self.assertRaises(InvalidLot):
                FLAT.closure(bad, turned=None)


if __name__ == "__main__":
    unittest.main()
