"""Like lots and their tree [0.12], [0.18], [12.1] to [12.4]."""

import itertools
import unittest

from downsets.base.orders import Order
from downsets.errors import InvalidLot, InvalidOrder, UnknownPlace
from downsets.parts import like
from downsets.parts.like import (
    bend, is_bend, is_crossing, is_like, is_prime, least_like, like_lots, like_tree, quotient, replaced)
from tests.helper import (
    BOOLEAN, CHAIN_FORTY, CROWN, EXAMPLES, FLAT, FLAT_FORTY, FORTY, JUST_4000, JUST_4001, NAMES, NO_ORDERS, ONE,
    PAIRS, SEVEN, VEE, ZIG, Case, all_lots, check_cases, check_error, check_judge, check_spoilt, check_too_many,
    five_orders, free_case, lot_case, no_lots, no_places, odd_but, order_case, place_case, same, small_orders,
    spread_orders, with_pairs)

SMALL = small_orders()
# A prime order of which two places are made of more places each.
NESTED = Order(SEVEN, (
    ("a", "d"), ("b", "d"), ("c", "d"), ("a", "b"), ("c", "e"), ("c", "f"), ("c", "g"), ("e", "g"), ("f", "g")))
SOME = SMALL + five_orders(29) + spread_orders() + [NESTED, ~NESTED]
# A row of forty places in which each one is beside its neighbours, and ahead of all later ones.
PRIME_FORTY = with_pairs(FLAT_FORTY, list(zip(NAMES, NAMES[2:])) + list(zip(NAMES, NAMES[3:])))


def view(order, place, other):
    return ((place, other) in order.pairs, (other, place) in order.pairs)


def slow_like(order, lot):
    return bool(lot) and all(len({view(order, place, other) for other in lot}) == 1
                             for place in order if place not in lot)


LIKE = {}


def slow_lots(order):
    key = (order.places, order.pairs)
    if key not in LIKE:
        LIKE[key] = [lot for lot in all_lots(order.places) if slow_like(order, lot)]
    return LIKE[key]


def slow_crossing(lot, other):
    one, two = set(lot), set(other)
    return bool(one & two) and not one <= two and not two <= one


def slow_nodes(order):
    lots = slow_lots(order)
    return [lot for lot in lots if not any(slow_crossing(lot, other) for other in lots)]


def slow_tree(order):
    nodes = slow_nodes(order)
    tree = {}
    for node in nodes:
        if len(node) > 1:
            inner = [lot for lot in nodes if set(lot) < set(node)]
            parts = [lot for lot in inner if not any(set(lot) < set(other) for other in inner)]
            beside = [view(order, x, y) == (False, False) for one, other in itertools.permutations(parts, 2)
                      for x in one for y in other]
            shape = "beside" if all(beside) else "prime" if any(beside) else "behind"
            if shape == "behind":
                parts = sorted(parts, key=lambda part: sum((other[0], part[0]) in order.pairs for other in parts))
            tree[node] = (shape, tuple(parts))
    return tree


def slow_bend(order, value):
    if not isinstance(value, tuple) or len(value) != 4 or not all(isinstance(name, str) for name in value):
        return False
    if not all(name in order.places for name in value) or len(set(value)) < 4:
        return False
    a, b, c, d = value
    told = {(a, c), (b, c), (b, d)}
    return {pair for pair in itertools.permutations(value, 2) if pair in order.pairs} == told


def union_of(lots):
    return tuple(sorted(set().union(*lots)))


class LikeTest(unittest.TestCase):
    def test_all_lots(self):
        for order in SOME:
            self.assertEqual(like_lots(order), tuple(slow_lots(order)))
            for lot in all_lots(order.places):
                self.assertIs(is_like(order, lot), slow_like(order, lot))

    def test_judge(self):
        for order in EXAMPLES + (NESTED,):
            for lot in slow_lots(order)[:6]:
                check_spoilt(
                    self, lambda value: is_like(order, value),
                    lambda value: any(same(value, other) for other in slow_lots(order)), lot)
            check_judge(self, lambda value: is_like(order, value))
            for bad in no_lots(order):
                self.assertIs(is_like(order, bad), False, repr(bad))
            self.assertIs(is_like(order, ()), False)

    def test_crossing(self):
        for order in (VEE, FLAT, ZIG, ONE, PAIRS):
            for lot, other in itertools.product(all_lots(order.places), repeat=2):
                self.assertIs(is_crossing(order, lot, other), slow_crossing(lot, other))

    def test_unions_and_common_parts(self):
        for order in SOME:
            lots = slow_lots(order)
            for one, other in itertools.combinations(lots, 2):
                if set(one) & set(other):
                    self.assertTrue(is_like(order, union_of([one, other])))
                    self.assertTrue(is_like(order, tuple(sorted(set(one) & set(other)))))
                    if is_crossing(order, one, other):
                        self.assertTrue(is_like(order, tuple(sorted(set(one) - set(other)))))
                        self.assertTrue(is_like(order, tuple(sorted(set(other) - set(one)))))

    def test_a_union_of_lots_apart_need_not_be_like(self):
        self.assertIs(is_like(Order.chain(("a", "b", "c")), ("a", "c")), False)

    def test_least_like(self):
        for order in SOME:
            lots = slow_lots(order)
            for lot in all_lots(order.places)[1:]:
                told = set(order.places).intersection(*[other for other in lots if set(lot) <= set(other)])
                self.assertEqual(least_like(order, lot), tuple(sorted(told)))

    def test_many_places(self):
        self.assertEqual(len(like_lots(CHAIN_FORTY)), 820)
        self.assertEqual(len(like_lots(JUST_4000)), 2 ** 8 - 1 + 3 * 9)
        self.assertEqual(least_like(PRIME_FORTY, NAMES[:2]), NAMES)
        self.assertEqual(least_like(CHAIN_FORTY, (NAMES[3], NAMES[9])), NAMES[3:10])
        self.assertIs(is_like(FLAT_FORTY, NAMES[::3]), True)
        self.assertIs(is_like(FORTY, FORTY.places[:39]), False)


class TreeTest(unittest.TestCase):
    def test_trees(self):
        for order in SOME:
            tree = like_tree(order)
            self.assertTrue(same(tree, slow_tree(order)), tree)
            self.assertEqual(list(tree), sorted(tree))
            for node, (shape, parts) in tree.items():
                self.assertIn(shape, like.SHAPES)
                self.assertEqual(union_of(parts), node)
                self.assertEqual(sum(map(len, parts)), len(node))
        self.assertEqual(like_tree(ONE), {})
        self.assertEqual(like.SHAPES, ("beside", "behind", "prime"))

    def test_like_lots_of_the_tree(self):
        for order in SOME:
            found = set(slow_nodes(order))
            for shape, parts in like_tree(order).values():
                for many in range(2, len(parts) + 1):
                    if shape == "beside":
                        found |= {union_of(chosen) for chosen in itertools.combinations(parts, many)}
                    if shape == "behind":
                        found |= {union_of(parts[k:k + many]) for k in range(len(parts) - many + 1)}
            self.assertEqual(sorted(found), slow_lots(order))

    def test_shapes(self):
        self.assertEqual(like_tree(NESTED), {
            SEVEN: ("prime", (("a", "b"), ("c",), ("d",), ("e", "f", "g"))), ("a", "b"): ("behind", (("a",), ("b",))),
            ("e", "f"): ("beside", (("e",), ("f",))), ("e", "f", "g"): ("behind", (("e", "f"), ("g",)))})
        chain = Order.chain(SEVEN[::-1])
        self.assertEqual(like_tree(chain), {SEVEN: ("behind", tuple((name,) for name in SEVEN[::-1]))})
        self.assertEqual(like_tree(Order.flat(SEVEN)), {SEVEN: ("beside", tuple((name,) for name in SEVEN))})

    def test_many_places(self):
        self.assertEqual(like_tree(CHAIN_FORTY), {NAMES: ("behind", tuple((name,) for name in NAMES[::-1]))})
        self.assertEqual(like_tree(PRIME_FORTY), {NAMES: ("prime", tuple((name,) for name in NAMES))})
        self.assertEqual(len(like_tree(BOOLEAN)), 2)
        self.assertEqual(like_tree(BOOLEAN)[BOOLEAN.places][0], "behind")
        shape, parts = like_tree(JUST_4000)[JUST_4000.places]
        self.assertEqual((shape, len(parts)), ("beside", 8))

    def test_primes(self):
        for order in SOME + [PRIME_FORTY, BOOLEAN, FLAT_FORTY]:
            tree = like_tree(order)
            self.assertIs(is_prime(order), order.places in tree and tree[order.places][0] == "prime")
        self.assertIs(is_prime(ONE), False)
        self.assertIs(is_prime(NESTED), True)
        self.assertIs(is_prime(ZIG), True)


class QuotientTest(unittest.TestCase):
    def test_quotients(self):
        for order in SOME:
            tree = slow_tree(order)
            for lot in all_lots(order.places):
                if lot in tree:
                    least = tuple(sorted(part[0] for part in tree[lot][1]))
                    self.assertTrue(quotient(order, lot) == order.within(least))
                else:
                    with self.assertRaises(InvalidLot):
                        quotient(order, lot)

    def test_shapes_of_quotients(self):
        for order in SOME:
            for lot, (shape, parts) in like_tree(order).items():
                made = quotient(order, lot)
                self.assertEqual(made.is_flat and len(parts) > 1, shape == "beside")
                self.assertEqual(made.is_chain, shape == "behind")
                if shape == "prime":
                    self.assertEqual(list(like_tree(made)), [made.places])

    def test_replaced(self):
        for order in SMALL[::5] + [ZIG, PAIRS]:
            for place in order:
                for inner in (Order.flat(("x", "y")), Order.chain(("y", "x")), Order((place,)), Order(("z",)),
                              Order.chain(("x", place)), VEE.renamed({"a": "x", "b": "y", "c": "z"})):
                    made = replaced(order, place, inner)
                    others = [name for name in order if name != place]
                    pairs = [pair for pair in order.pairs if place not in pair] + list(inner.pairs)
                    pairs += [(x, name) for x in inner for name in others if (place, name) in order.pairs]
                    pairs += [(name, x) for x in inner for name in others if (name, place) in order.pairs]
                    self.assertIs(type(made), Order)
                    self.assertEqual(made.places, tuple(sorted(others + list(inner.places))))
                    self.assertEqual(made.pairs, tuple(sorted(pairs)))
                    self.assertTrue(is_like(made, inner.places))

    def test_like_lots_replace_one_place(self):
        for order in SOME:
            for lot in slow_lots(order):
                for place in lot[:2]:
                    kept = tuple(name for name in order if name == place or name not in lot)
                    self.assertTrue(replaced(order.within(kept), place, order.within(lot)) == order)

    def test_seven_places_at_most(self):
        six = Order.chain(SEVEN[:6])
        self.assertEqual(len(replaced(six, "c", Order.flat(("x", "y")))), 7)
        self.assertEqual(len(replaced(ONE, "a", Order.flat(SEVEN))), 7)
        self.assertEqual(replaced(ONE, "a", ONE).places, ("a",))
        for order, inner in ((six, FLAT.renamed({"a": "x", "b": "y", "c": "z"})), (FLAT_FORTY, Order(("zzz",))),
                             (Order.chain(SEVEN), Order.flat(("x", "y"))), (ONE, BOOLEAN), (ONE, FLAT_FORTY)):
            with self.assertRaises(InvalidOrder):
                replaced(order, order.places[0], inner)


class BendTest(unittest.TestCase):
    def test_bends(self):
        for order in SOME:
            found = bend(order)
            bends = [row for row in itertools.permutations(order.places, 4) if slow_bend(order, row)]
            self.assertEqual(found is not None, bool(bends))
            if bends:
                self.assertIn(found, bends)
                self.assertIs(is_bend(order, found), True)
            self.assertEqual(bool(bends), any(shape == "prime" for shape, _ in like_tree(order).values()))

    def test_judge(self):
        for order in (ZIG, NESTED, CROWN, PAIRS):
            for row in itertools.product(order.places, repeat=4):
                self.assertIs(is_bend(order, row), slow_bend(order, row))
        check_spoilt(self, lambda value: is_bend(ZIG, value), lambda value: slow_bend(ZIG, value), bend(ZIG))
        for order in EXAMPLES:
            check_judge(self, lambda value: is_bend(order, value))
            self.assertIs(is_bend(order, None), False)

    def test_many_places(self):
        for order in (BOOLEAN, FORTY, PRIME_FORTY):
            self.assertIs(is_bend(order, bend(order)), True)
        self.assertIsNone(bend(FLAT_FORTY))
        self.assertIsNone(bend(CHAIN_FORTY))


class WrongArgumentsTest(unittest.TestCase):
    def test_orders_and_lots(self):
        for call in (like_lots, like_tree, is_prime, bend):
            check_cases(self, call, order_case(ZIG))
        for judge in (is_like, is_bend):
            check_cases(self, judge, order_case(ZIG), free_case(None))
        for order in (ZIG, ONE):
            check_cases(self, is_crossing, order_case(order), lot_case(order, ()), lot_case(order, ("a",)))
            check_cases(self, least_like, order_case(order), Case(("a",), no_lots(order) + [()], InvalidLot))
        lots = [lot for lot in all_lots(VEE.places) if lot not in (("a", "b", "c"), ("b", "c"))]
        check_cases(self, quotient, order_case(VEE), Case(("b", "c"), no_lots(VEE) + lots, InvalidLot))
        check_error(self, quotient, [ONE, ("a",)], Case(None, [], InvalidLot), None)

    def test_replaced(self):
        inner = Order.chain(("y", "d"))
        bad = [value for value in odd_but(lambda value: False) if not isinstance(value, Order)]
        bad += [ZIG, ONE, Order(("a", "x")), Order.flat(("d", "c")), Order.flat(("v", "w", "x", "y", "z")), BOOLEAN]
        check_cases(self, replaced, order_case(ZIG), place_case(ZIG, "d"), Case(inner, bad, InvalidOrder))
        for bad in no_places(ZIG):
            check_error(self, replaced, [ZIG, bad, None], Case("", [], UnknownPlace, "place"), bad)
        for bad in NO_ORDERS:
            check_error(self, replaced, [bad, None, None], Case(None, [], InvalidOrder), bad)

    def test_too_many(self):
        for order in (BOOLEAN, JUST_4001, FORTY, FLAT_FORTY):
            check_too_many(self, like_lots, order)
            self.assertTrue(like_tree(order))
            self.assertIn(bend(order) is None, (True, False))
            self.assertEqual(least_like(order, order.places), order.places)


if __name__ == "__main__":
    unittest.main()
