"""Heaviest lots and facts along the tree [0.18], [6.4], [13.1], [13.2]."""

import itertools
import math
import random
import unittest

from downsets.base.lots import closed_lots, tops
from downsets.base.orders import Order
from downsets.errors import InvalidLineup, InvalidOperation, InvalidOrder
from downsets.lines.two import telling_number, two_number
from downsets.parts import along as module
from downsets.parts.along import (
    FACTS, along, heaviest_chain, heaviest_flat, in_row, is_heaviest_chain, is_heaviest_flat)
from downsets.parts.like import like_lots, like_tree, quotient, replaced
from downsets.ways.lineups import is_lineup, lineup_number
from tests.helper import (
    BOOLEAN, CHAIN_FORTY, CROWN, EXAMPLES, FLAT, FLAT_FORTY, FORTY, JUST_4001, LEVELS, NAMES, NO_ORDERS, ODD_VALUES,
    ONE, PAIRS, SEVEN, SQUARE, VEE, ZIG, Case, all_lots, check_cases, check_error, check_judge, check_spoilt,
    check_too_many, five_orders, free_case, no_lineups, no_number_dicts, odd_but, order_case, same, slow_chain,
    slow_closed_lots, slow_flat, slow_lineups, small_orders, spread_orders)

SMALL = small_orders()
NESTED = Order(SEVEN, (
    ("a", "d"), ("b", "d"), ("c", "d"), ("a", "b"), ("c", "e"), ("c", "f"), ("c", "g"), ("e", "g"), ("f", "g")))
# A prime order made of six places, and one more beside one of them.
DOUBLED = Order(SEVEN, (("a", "c"), ("b", "c"), ("b", "d"), ("d", "f"), ("e", "f"), ("g", "f")))
SOME = SMALL + five_orders(29) + spread_orders() + [NESTED, ~NESTED, DOUBLED, NESTED.without("f") + Order(("x",))]
KINDS = ((heaviest_flat, is_heaviest_flat, slow_flat, slow_chain), (heaviest_chain, is_heaviest_chain, slow_chain, slow_flat))


def loads(order, chance, most=6):
    return {place: chance.randint(1, most) for place in order}


def weight_of(weights, lot):
    return sum(weights[place] for place in lot)


def slow_greatest(order, weights, is_good):
    return max(weight_of(weights, lot) for lot in all_lots(order.places) if is_good(order, lot))


def slow_judge(order, weights, value, is_lot, is_part):
    """Judge a triple by its words."""
    if not isinstance(value, tuple) or len(value) != 3 or type(value[0]) is not int or not isinstance(value[2], dict):
        return False
    weight, lot, values = value
    lots = all_lots(order.places)
    if not any(same(lot, other) for other in lots) or not is_lot(order, lot):
        return False
    if not all(any(same(part, other) for other in lots[1:]) and is_part(order, part) for part in values):
        return False
    if not all(type(many) is int and many >= 1 for many in values.values()):
        return False
    if any(sum(values[part] for part in values if place in part) != weights[place] for place in order):
        return False
    return weight == weight_of(weights, lot) == slow_greatest(order, weights, is_lot) == sum(values.values())


class HeaviestTest(unittest.TestCase):
    def test_told_triples(self):
        chance = random.Random(13)
        for order in SOME:
            for most in (1, 2, 6, 1000):
                weights = loads(order, chance, most)
                for call, judge, is_lot, is_part in KINDS:
                    told = call(order, weights)
                    self.assertTrue(slow_judge(order, weights, told, is_lot, is_part), told)
                    self.assertIs(judge(order, weights, told), True)
                    self.assertEqual(list(told[2]), sorted(told[2]))
                    self.assertIs(type(told), tuple)

    def test_all_triples_of_small_orders(self):
        for order, weights in ((ONE, {"a": 2}), (VEE, {"a": 1, "b": 2, "c": 1}), (~VEE, {"a": 2, "b": 1, "c": 1}),
                               (FLAT, {"a": 1, "b": 1, "c": 2}), (Order.chain(("b", "a")), {"a": 2, "b": 1}),
                               (Order(("a", "b", "c"), (("c", "a"),)), {"a": 1, "b": 2, "c": 2})):
            lots = all_lots(order.places)
            for call, judge, is_lot, is_part in KINDS:
                weight = call(order, weights)[0]
                parts = [lot for lot in lots if is_part(order, lot)]
                found = 0
                for row in itertools.product(range(3), repeat=len(parts)):
                    values = {part: many for part, many in zip(parts, row) if many}
                    for lot in lots:
                        for told in (weight, weight_of(weights, lot)):
                            good = slow_judge(order, weights, (told, lot, values), is_lot, is_part)
                            found += good
                            self.assertIs(judge(order, weights, (told, lot, values)), good)
                self.assertGreater(found, 0)

    def test_all_dicts_of_lots(self):
        for order in small_orders(3):
            weights = {place: 1 for place in order}
            lots = all_lots(order.places)
            for call, judge, is_lot, is_part in KINDS:
                weight = call(order, weights)[0]
                for row in itertools.product(range(2), repeat=len(lots)):
                    values = {part: many for part, many in zip(lots, row) if many}
                    for lot in lots:
                        if len(lot) == weight:
                            self.assertIs(judge(order, weights, (weight, lot, values)), slow_judge(
                                order, weights, (weight, lot, values), is_lot, is_part))

    def test_parts_that_are_no_chains_or_not_flat(self):
        weights = {place: 1 for place in PAIRS}
        good = {("a", "b"): 1, ("c", "d"): 1}
        self.assertIs(is_heaviest_flat(PAIRS, weights, (2, ("a", "c"), good)), True)
        self.assertIs(is_heaviest_flat(PAIRS, weights, (2, ("a", "c"), {("a", "d"): 1, ("b", "c"): 1})), False)
        self.assertIs(is_heaviest_chain(CROWN, weights, (2, ("a", "c"), good)), True)
        self.assertIs(is_heaviest_chain(CROWN, weights, (2, ("a", "c"), {("a", "d"): 1, ("b", "c"): 1})), False)
        for more in ({(): 0}, {("a",): 0}, {(): 1}, {("a",): 1}, {("a",): 1, ("b",): -1}, {("a",): -1}, {("a",): False}):
            self.assertIs(is_heaviest_flat(PAIRS, weights, (2, ("a", "c"), {**good, **more})), False)
            self.assertIs(is_heaviest_chain(CROWN, weights, (2, ("a", "c"), {**good, **more})), False)

    def test_triples_made_by_others(self):
        chance = random.Random(31)
        for order in SMALL[23::4] + spread_orders():
            weights = loads(order, chance)
            for _ in range(3):
                row = list(order.places)
                chance.shuffle(row)
                name = dict(zip(order.places, row))
                back = dict(zip(row, order.places))
                for call, judge, is_lot, is_part in KINDS:
                    weight, lot, values = call(order.renamed(name), {name[place]: weights[place] for place in order})
                    lot = tuple(sorted(back[place] for place in lot))
                    values = {tuple(sorted(back[place] for place in part)): many for part, many in values.items()}
                    self.assertIs(judge(order, weights, (weight, lot, values)), True)
                    for value in ((weight + 1, lot, values), (weight, lot[1:], values), (weight, lot, {**values, lot: 1})):
                        self.assertIs(
                            judge(order, weights, value), slow_judge(order, weights, value, is_lot, is_part))

    def test_spoilt_triples(self):
        for order, weights in ((ONE, {"a": 1}), (VEE, {"c": 1, "b": 2, "a": 3}), (ZIG, {"a": 1, "b": 1, "c": 2, "d": 1}),
                               (FLAT, {"a": 1, "b": 1, "c": 1})):
            for call, judge, is_lot, is_part in KINDS:
                check_spoilt(
                    self, lambda value: judge(order, weights, value),
                    lambda value: slow_judge(order, weights, value, is_lot, is_part), call(order, weights))

    def test_judges_take_all_values(self):
        for order in EXAMPLES:
            weights = {place: 1 for place in order}
            for call, judge, _, _ in KINDS:
                told = call(order, weights)
                check_judge(self, lambda value: judge(order, weights, value))
                for value in ODD_VALUES:
                    for k in range(3):
                        spoilt = told[:k] + (value,) + told[k + 1:]
                        self.assertIn(judge(order, weights, spoilt), (True, False))
                        if not isinstance(value, (int, tuple, dict)):
                            self.assertIs(judge(order, weights, spoilt), False)

    def test_edges(self):
        for many in (1, 1000):
            self.assertEqual(heaviest_flat(ONE, {"a": many}), (many, ("a",), {("a",): many}))
            self.assertEqual(heaviest_chain(ONE, {"a": many}), (many, ("a",), {("a",): many}))
            self.assertEqual(heaviest_chain(FLAT, {"a": many, "b": many, "c": many})[2], {("a", "b", "c"): many})
        chain = Order.chain(("b", "a"))
        self.assertEqual(heaviest_flat(chain, {"a": 3, "b": 5}), (5, ("b",), {("a", "b"): 3, ("b",): 2}))
        self.assertEqual(heaviest_chain(chain, {"a": 3, "b": 5}), (8, ("a", "b"), {("a",): 3, ("b",): 5}))

    def test_many_places(self):
        chance = random.Random(40)
        for order in (BOOLEAN, FORTY, FLAT_FORTY, CHAIN_FORTY, LEVELS, JUST_4001):
            for weights in (loads(order, chance, 1000), {place: 1000 for place in order}):
                for call, judge, _, _ in KINDS:
                    weight, lot, values = call(order, weights)
                    self.assertIs(judge(order, weights, (weight, lot, values)), True)
                    self.assertIs(judge(order, weights, (weight - 1, lot, values)), False)
                    self.assertEqual(weight, sum(values.values()))
        weights = {name: k + 1 for k, name in enumerate(NAMES)}
        self.assertEqual(heaviest_flat(FLAT_FORTY, weights)[0], 820)
        self.assertEqual(heaviest_chain(CHAIN_FORTY, weights)[0], 820)
        self.assertEqual(heaviest_flat(LEVELS, weights)[0], 79)
        self.assertEqual(heaviest_chain(LEVELS, weights)[0], sum(range(2, 41, 2)))


class RowTest(unittest.TestCase):
    def test_rows(self):
        for order in SMALL + spread_orders()[3:] + [NESTED]:
            lots = like_lots(order)
            for lot in lots:
                inner = order.within(lot)
                for row in slow_lineups(inner)[:3]:
                    made = in_row(order, row)
                    self.assertEqual(made.places, order.places)
                    self.assertEqual(set(made.pairs), set(order.pairs) | set(itertools.combinations(row, 2)))
                    self.assertEqual(
                        lineup_number(order), lineup_number(inner) * lineup_number(made))

    def test_no_rows(self):
        for order in SMALL[::4]:
            lots = like_lots(order)
            for many in range(4):
                for row in itertools.product(order.places, repeat=many):
                    lot = tuple(sorted(row))
                    if lot in lots and is_lineup(order.within(lot), row):
                        self.assertIs(type(in_row(order, row)), Order)
                    else:
                        with self.assertRaises(InvalidLineup):
                            in_row(order, row)

    def test_many_places(self):
        made = in_row(FLAT_FORTY, NAMES[::-2])
        self.assertEqual(len(made.pairs), 190)
        self.assertTrue(in_row(FLAT_FORTY, NAMES[::-1]) == CHAIN_FORTY)
        self.assertTrue(in_row(BOOLEAN, BOOLEAN.places[3:4]) == BOOLEAN)


def slow_two(order):
    rows = slow_lineups(order)
    return sum(all((x, y) in order.pairs for x, y in itertools.combinations(one, 2) if other.index(x) < other.index(y))
               for one, other in itertools.product(rows, repeat=2))


def slow_jumps(order):
    return min(sum((x, y) not in order.pairs for x, y in zip(row, row[1:])) for row in slow_lineups(order))


def slow_fact(order, fact):
    """A fact by a slow search, if the order is not too great for it."""
    lots = all_lots(order.places)
    if fact == "closed":
        return len(slow_closed_lots(order))
    if fact in ("height", "width"):
        return max(len(lot) for lot in lots if (slow_chain if fact == "height" else slow_flat)(order, lot))
    if fact == "lineups":
        return len(slow_lineups(order))
    if fact == "jumps":
        has_prime = any(shape == "prime" for shape, _ in like_tree(order).values())
        return None if has_prime else slow_jumps(order)
    if len(slow_lineups(order)) > 60:
        return two_number(order) if fact == "pairs" else telling_number(order)
    if fact == "pairs":
        return slow_two(order)
    return 1 if order.is_chain else 2 if slow_two(order) else 3


def told_by_parts(order, node, told, fact):
    """A fact of a node by the row of the table."""
    shape, parts = like_tree(order)[node]
    each = [told[part] for part in parts]
    made = quotient(order, node)
    weights = {part[0]: value for part, value in zip(parts, each)}
    sizes = [len(part) for part in parts]
    if fact == "jumps":
        if shape == "prime" or None in each:
            return None
        return sum(each) + (len(parts) - 1 if shape == "beside" else 0)
    if fact == "closed":
        if shape == "prime":
            return sum(math.prod(weights[place] - 1 for place in tops(made, lot)) for lot in closed_lots(made))
        return math.prod(each) if shape == "beside" else 1 + sum(value - 1 for value in each)
    if fact in ("height", "width"):
        if shape == "prime":
            return (heaviest_chain if fact == "height" else heaviest_flat)(made, weights)[0]
        return sum(each) if (shape == "behind") == (fact == "height") else max(each)
    if fact == "lines":
        return max(each + [2] if shape == "beside" else each if shape == "behind" else each + [telling_number(made)])
    if fact == "pairs":
        if shape == "prime":
            return math.prod(each) * (2 if two_number(made) else 0)
        return math.prod(each) * (math.factorial(len(parts)) if shape == "beside" else 1)
    if shape == "beside":
        return math.prod(each) * math.factorial(sum(sizes)) // math.prod(map(math.factorial, sizes))
    if shape == "prime":
        for k, part in enumerate(parts):
            row = tuple("z" + SEVEN[k] + letter for letter in SEVEN[:len(part)])
            made = replaced(made, part[0], Order.chain(row))
        return math.prod(each) * lineup_number(made)
    return math.prod(each)


class AlongTest(unittest.TestCase):
    def test_facts(self):
        self.assertEqual(FACTS, ("closed", "height", "jumps", "lines", "lineups", "pairs", "width"))
        self.assertEqual(module.MAX_WEIGHT, 1000)
        for order in SOME:
            nodes = sorted(list(like_tree(order)) + [(place,) for place in order])
            for fact in FACTS:
                told = along(order, fact)
                self.assertEqual(list(told), nodes)
                for node in nodes:
                    self.assertEqual(told[node], slow_fact(order.within(node), fact), (fact, order.pairs, node))

    def test_table(self):
        for order in SOME:
            for fact in FACTS:
                told = along(order, fact)
                for node in told:
                    if len(node) > 1:
                        self.assertEqual(told[node], told_by_parts(order, node, told, fact), (fact, order.pairs))
                    else:
                        self.assertEqual(told[node], {"closed": 2, "jumps": 0}.get(fact, 1))

    def test_edges(self):
        for fact in FACTS:
            self.assertEqual(along(ONE, fact), {("a",): {"closed": 2, "jumps": 0}.get(fact, 1)})
        flat, chain = Order.flat(SEVEN), Order.chain(SEVEN)
        self.assertEqual([along(flat, fact)[SEVEN] for fact in FACTS], [128, 1, 6, 2, 5040, 5040, 7])
        self.assertEqual([along(chain, fact)[SEVEN] for fact in FACTS], [8, 7, 0, 1, 1, 1, 1])
        self.assertEqual([along(DOUBLED, fact)[SEVEN] for fact in ("jumps", "height")], [None, 3])
        self.assertIs(along(NESTED, "jumps")[SEVEN], None)
        self.assertEqual(along(NESTED, "jumps")[("e", "f", "g")], 1)
        # A part without told jumps takes them from the whole.
        self.assertIs(along(ZIG + Order(("x",)), "jumps")[("a", "b", "c", "d", "x")], None)
        self.assertIs(along(ZIG >> Order(("x",)), "jumps")[("a", "b", "c", "d", "x")], None)


class WrongArgumentsTest(unittest.TestCase):
    def test_weights(self):
        for order in (ZIG, ONE, SQUARE):
            for low in (1, 1000):
                weights = Case({place: low for place in order}, no_number_dicts(order, 1, 1000), InvalidOperation)
                for call in (heaviest_flat, heaviest_chain):
                    check_cases(self, call, order_case(order), weights)
                for judge in (is_heaviest_flat, is_heaviest_chain):
                    check_cases(self, judge, order_case(order), weights, free_case(None))

    def test_rows(self):
        for order, row in ((VEE, ("c", "b")), (ONE, ("a",)), (CROWN, ("b", "a"))):
            places = order.places
            good = [row for lot in like_lots(order) for row in slow_lineups(order.within(lot))]
            bad = odd_but(lambda value: isinstance(value, tuple) and value in good) + [
                list(row), row + row[:1], row + ("zzz",), row[:-1] + (1,), places + places]
            bad += [value for value in no_lineups(order) if value not in good and not isinstance(value, Order)]
            check_cases(self, in_row, order_case(order), Case(row, bad, InvalidLineup))

    def test_facts(self):
        words = odd_but(lambda value: False) + ["Closed", "close", "closed ", ("closed",), ["width"], "core", "jump"]
        for fact in FACTS:
            check_cases(self, along, order_case(PAIRS), Case(fact, words, InvalidOperation))
        eight = FLAT_FORTY.within(NAMES[:8])
        for order in (eight, BOOLEAN, FORTY, FLAT_FORTY, CHAIN_FORTY):
            for fact in FACTS:
                check_too_many(self, along, order, fact, limit=7)
            for bad in words:
                check_error(self, along, [order, bad], Case("", [], InvalidOperation), bad)
        for bad in NO_ORDERS:
            check_error(self, along, [bad, None], Case(None, [], InvalidOrder), bad)


if __name__ == "__main__":
    unittest.main()
