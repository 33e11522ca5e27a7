"""Heaviest closed lots and payments [0.20], [17.1] to [17.4]."""

import itertools
import random
import unittest

from downsets.base.lots import closed_lots
from downsets.base.orders import Order
from downsets.errors import InvalidLot, InvalidOperation
from downsets.heavy.weights import (
    greatest_heaviest, greatest_weight, heaviest_lots, heavy_classes, heavy_order, is_payments, is_weight_paper,
    least_heaviest, left_over, weight_of, weight_paper)
from tests.helper import (
    BOOLEAN, CHAIN_FORTY, CROWN, EXAMPLES, FLAT, FLAT_FORTY, FORTY, JUST_4000, JUST_4001, LEVELS, NAMES, ODD_VALUES,
    ONE, PAIRS, SEVEN, VEE, ZIG, Case, all_lots, check_cases, check_judge, check_spoilt, check_too_many, five_orders,
    free_case, is_key, lot_case, odd_but, order_case, same, slow_closed, slow_closed_lots, small_orders,
    spread_orders, weights_case, with_pairs)

SMALL = small_orders()
SOME = SMALL + five_orders(37) + spread_orders()
LARGE = (BOOLEAN, FORTY, FLAT_FORTY, CHAIN_FORTY, LEVELS, JUST_4000, JUST_4001)
PLAIN = (greatest_weight, heaviest_lots, least_heaviest, greatest_heaviest, weight_paper, heavy_classes, heavy_order)


def loads(order, chance, most):
    return {place: chance.randint(-most, most) for place in order}


def loads_for(order, chance):
    """Some weights of an order, with and without ties."""
    yield from (loads(order, chance, most) for most in (1, 2, 9, 1000))
    yield from ({place: weight for place in order} for weight in (-1000, 0, 1000))


def slow_weight(weights, lot):
    return sum(weights[place] for place in lot)


def slow_heaviest(order, weights):
    lots = slow_closed_lots(order)
    most = max(slow_weight(weights, lot) for lot in lots)
    return tuple(lot for lot in lots if slow_weight(weights, lot) == most)


def slow_payments(order, value):
    if not isinstance(value, dict):
        return False
    for key, many in value.items():
        if not isinstance(key, tuple) or len(key) != 2 or not all(isinstance(place, str) for place in key):
            return False
        if key[::-1] not in order.pairs or type(many) is not int or many < 1:
            return False
    return True


def slow_left(weights, payments):
    return {
        place: weights[place] - sum(many for (payer, _), many in payments.items() if payer == place)
        + sum(many for (_, taker), many in payments.items() if taker == place) for place in sorted(weights)}


def slow_paper(order, weights, value):
    if not isinstance(value, tuple) or len(value) != 3 or value[0] != "heaviest":
        return False
    _, lot, payments = value
    if not any(same(lot, other) for other in slow_closed_lots(order)) or not slow_payments(order, payments):
        return False
    above = sum(left for left in slow_left(weights, payments).values() if left > 0)
    assert slow_weight(weights, lot) <= above
    return slow_weight(weights, lot) == above


def slow_classes(order, heaviest):
    """The classes, each with the numbers of the heaviest lots that have it."""
    found = {}
    for place in order:
        mark = tuple(place in lot for lot in heaviest)
        if place in set().union(*heaviest) and not all(mark):
            found.setdefault(mark, []).append(place)
    return {tuple(places): mark for mark, places in found.items()}


def some_payments(order, chance, top):
    pairs = [pair[::-1] for pair in order.pairs]
    return {pair: chance.randint(1, top) for pair in chance.sample(pairs, chance.randint(0, len(pairs)))}


class HeaviestTest(unittest.TestCase):
    def test_small_orders(self):
        chance = random.Random(17)
        for order in SOME:
            for weights in loads_for(order, chance):
                found = slow_heaviest(order, weights)
                told = heaviest_lots(order, weights)
                self.assertEqual(told, found)
                self.assertEqual(greatest_weight(order, weights), slow_weight(weights, found[0]))
                self.assertEqual(least_heaviest(order, weights), min(found, key=len))
                self.assertEqual(greatest_heaviest(order, weights), max(found, key=len))
                for lot in found:
                    self.assertLessEqual(set(least_heaviest(order, weights)), set(lot))
                    self.assertLessEqual(set(lot), set(greatest_heaviest(order, weights)))

    def test_all_weights_of_small_orders(self):
        for order in small_orders(3):
            for row in itertools.product((-2, -1, 0, 1, 3), repeat=len(order)):
                weights = dict(zip(order.places, row))
                found = slow_heaviest(order, weights)
                self.assertEqual(heaviest_lots(order, weights), found)
                self.assertEqual(least_heaviest(order, weights), min(found, key=len))
                self.assertEqual(greatest_heaviest(order, weights), max(found, key=len))
                self.assertIs(is_weight_paper(order, weights, weight_paper(order, weights)), True)

    def test_unions_and_common_parts(self):
        chance = random.Random(171)
        for order in SOME[::3]:
            found = heaviest_lots(order, loads(order, chance, 1))
            for one, other in itertools.combinations(found, 2):
                self.assertIn(tuple(sorted(set(one) | set(other))), found)
                self.assertIn(tuple(sorted(set(one) & set(other))), found)

    def test_weights_of_lots(self):
        chance = random.Random(1)
        for order in SMALL[::5] + spread_orders():
            weights = loads(order, chance, 1000)
            for lot in all_lots(order.places):
                self.assertEqual(weight_of(order, weights, lot), slow_weight(weights, lot))
                self.assertEqual(weight_of(order, dict(reversed(weights.items())), lot), slow_weight(weights, lot))

    def test_edges(self):
        for weight in (-1000, 0, 1000):
            self.assertEqual(greatest_weight(ONE, {"a": weight}), max(0, weight))
        self.assertEqual(heaviest_lots(ONE, {"a": 0}), ((), ("a",)))
        self.assertEqual((least_heaviest(ONE, {"a": 0}), greatest_heaviest(ONE, {"a": 0})), ((), ("a",)))
        self.assertEqual(heaviest_lots(ONE, {"a": -1}), ((),))
        self.assertEqual(heaviest_lots(ONE, {"a": 1}), (("a",),))
        chain = Order.chain(("c", "b", "a"))
        self.assertEqual(heaviest_lots(chain, {"a": 5, "b": -3, "c": -2}), ((), ("a", "b", "c")))
        self.assertEqual(heaviest_lots(chain, {"a": 5, "b": -3, "c": 3}), (("a", "b", "c"),))
        self.assertEqual(greatest_weight(FLAT_FORTY, {place: 1000 for place in NAMES}), 40000)
        self.assertEqual(greatest_weight(CHAIN_FORTY, {**{place: -1 for place in NAMES}, NAMES[0]: 39}), 0)
        self.assertEqual(greatest_weight(CHAIN_FORTY, {**{place: -1 for place in NAMES}, NAMES[0]: 40}), 1)

    def test_the_heaviest_place_can_lack(self):
        # [0.21]
        self.assertEqual(heaviest_lots(VEE + Order(("d",)), {"a": -9, "b": 5, "c": 3, "d": 1}), (("d",),))

    def test_many_places(self):
        chance = random.Random(170)
        for order in LARGE:
            for most in (1, 3, 1000):
                weights = loads(order, chance, most)
                word, lot, payments = weight_paper(order, weights)
                self.assertIs(is_weight_paper(order, weights, (word, lot, payments)), True)
                self.assertEqual(greatest_weight(order, weights), slow_weight(weights, lot))
                least, greatest = least_heaviest(order, weights), greatest_heaviest(order, weights)
                for other in (least, greatest):
                    self.assertTrue(slow_closed(order, other))
                    self.assertIs(is_weight_paper(order, weights, (word, other, payments)), True)
                self.check_ends(order, weights, payments, least, greatest)

    def check_ends(self, order, weights, payments, least, greatest):
        """[17.3]: what a heaviest lot must have is the least one, and what none can have the greatest one lacks."""
        left = slow_left(weights, payments)
        must = {place for place in order if left[place] > 0}
        grown = None
        while grown != must:
            grown = set(must)
            must |= {one for one, other in order.pairs if other in must}
            must |= {payer for payer, taker in payments if taker in must}
        self.assertEqual(must, set(least))
        lacking = {place for place in order if left[place] < 0}
        grown = None
        while grown != lacking:
            grown = set(lacking)
            lacking |= {other for one, other in order.pairs if one in lacking}
            lacking |= {taker for payer, taker in payments if payer in lacking}
        self.assertEqual(set(order.places) - lacking, set(greatest))


class PaymentsTest(unittest.TestCase):
    def test_payments(self):
        chance = random.Random(2)
        for order in SOME[::2]:
            for _ in range(5):
                payments = some_payments(order, chance, 9)
                self.assertIs(is_payments(order, payments), True)
                weights = loads(order, chance, 9)
                told = left_over(order, weights, payments)
                self.assertTrue(same(told, slow_left(weights, payments)))
                self.assertEqual(list(left_over(order, dict(reversed(weights.items())), payments)), list(order.places))

    def test_all_pairs(self):
        for order in SMALL:
            for pair in itertools.product(order.places, repeat=2):
                self.assertIs(is_payments(order, {pair: 1}), pair[::-1] in order.pairs)

    def test_odd_payments(self):
        for order in EXAMPLES + (FORTY,):
            check_judge(self, lambda value: is_payments(order, value))
        for bad in ODD_VALUES:
            self.assertIs(is_payments(VEE, {("b", "a"): bad}), type(bad) is int and bad >= 1)
            if is_key(bad):
                self.assertIs(is_payments(VEE, {bad: 1, ("b", "a"): 1}), bad == ("b", "a"))
        self.assertIs(is_payments(VEE, {}), True)
        self.assertIs(is_payments(ONE, {}), True)
        self.assertIs(is_payments(VEE, {("b", "a"): 0}), False)
        self.assertIs(is_payments(VEE, {("b", "a"): -1}), False)
        self.assertIs(is_payments(VEE, {("b", "a"): True}), False)
        self.assertIs(is_payments(VEE, {("b", "a", "a"): 1}), False)
        self.assertIs(is_payments(VEE, {("b", "zzz"): 1}), False)
        self.assertIs(is_payments(VEE, {("b", "c"): 1}), False)
        self.assertIs(is_payments(Order.chain(("c", "b", "a")), {("a", "c"): 999999999999}), True)

    def test_bounds_by_payments(self):
        chance = random.Random(5)
        for order in SOME[::3]:
            weights = loads(order, chance, 9)
            left = left_over(order, weights, some_payments(order, chance, 5))
            for lot in closed_lots(order):
                self.assertLessEqual(slow_weight(weights, lot), slow_weight(left, lot))
                self.assertLessEqual(slow_weight(left, lot), sum(max(0, number) for number in left.values()))

    def test_heaviest_lots_by_payments(self):
        chance = random.Random(6)
        for order in SOME:
            for weights in loads_for(order, chance):
                _, _, payments = weight_paper(order, weights)
                left = left_over(order, weights, payments)
                for lot in closed_lots(order):
                    good = all(place in lot for place in order if left[place] > 0)
                    good = good and all(left[place] >= 0 for place in lot)
                    good = good and all(payer in lot for payer, taker in payments if taker in lot)
                    self.assertEqual(good, lot in heaviest_lots(order, weights))


class PaperTest(unittest.TestCase):
    def test_told_papers(self):
        chance = random.Random(7)
        for order in SOME:
            for weights in loads_for(order, chance):
                paper = weight_paper(order, weights)
                self.assertTrue(slow_paper(order, weights, paper), paper)
                self.assertIs(is_weight_paper(order, weights, paper), True)
                self.assertEqual(list(paper[2]), sorted(paper[2]))

    def test_all_papers_of_small_orders(self):
        chance = random.Random(8)
        for order in small_orders(3):
            pairs = [pair[::-1] for pair in order.pairs]
            for weights in (loads(order, chance, 2), loads(order, chance, 1), {place: 0 for place in order}):
                found = 0
                for row in itertools.product(range(3), repeat=len(pairs)):
                    payments = {pair: many for pair, many in zip(pairs, row) if many}
                    for lot in all_lots(order.places):
                        value = ("heaviest", lot, payments)
                        good = slow_paper(order, weights, value)
                        found += good
                        self.assertIs(is_weight_paper(order, weights, value), good)
                self.assertGreater(found, 0)

    def test_papers_of_others(self):
        weights = {"a": -2, "b": -1, "c": 4, "d": 0}
        for lot in (("a", "b", "c"), ("a", "b", "c", "d")):
            self.assertIs(is_weight_paper(ZIG, weights, ("heaviest", lot, {("c", "a"): 2, ("c", "b"): 1})), True)
            self.assertIs(is_weight_paper(ZIG, weights, ("heaviest", lot, {("c", "b"): 1, ("c", "a"): 2})), True)
        self.assertIs(is_weight_paper(ZIG, weights, ("heaviest", (), {("c", "a"): 2, ("c", "b"): 1})), False)
        self.assertIs(is_weight_paper(ZIG, weights, ("heaviest", ("c",), {("c", "a"): 2, ("c", "b"): 1})), False)
        self.assertIs(is_weight_paper(ONE, {"a": -5}, ("heaviest", (), {})), True)
        self.assertIs(is_weight_paper(ONE, {"a": 0}, ("heaviest", ("a",), {})), True)

    def test_spoilt_papers(self):
        for order, weights in ((ONE, {"a": 1}), (ONE, {"a": 0}), (VEE, {"a": -3, "b": 2, "c": 2}),
                               (ZIG, {"a": -2, "b": -1, "c": 4, "d": 0}), (FLAT, {"a": 1, "b": 0, "c": -1}),
                               (Order.chain(("c", "b", "a")), {"a": 3, "b": -1, "c": -1})):
            check_spoilt(
                self, lambda value: is_weight_paper(order, weights, value),
                lambda value: slow_paper(order, weights, value), weight_paper(order, weights))

    def test_judge_takes_all_values(self):
        for order in EXAMPLES:
            weights = {place: 1 for place in order}
            paper = weight_paper(order, weights)
            check_judge(self, lambda value: is_weight_paper(order, weights, value))
            for bad in ODD_VALUES:
                for k in range(3):
                    value = paper[:k] + (bad,) + paper[k + 1:]
                    self.assertIs(is_weight_paper(order, weights, value), slow_paper(order, weights, value))


class ClassesTest(unittest.TestCase):
    def test_classes(self):
        chance = random.Random(9)
        for order in SOME:
            for weights in loads_for(order, chance):
                found = slow_heaviest(order, weights)
                classes = slow_classes(order, found)
                self.assertEqual(heavy_classes(order, weights), tuple(sorted(classes)))
                told = heavy_order(order, weights)
                if len(found) == 1:
                    self.assertIsNone(told)
                    self.assertEqual(classes, {})
                    continue
                self.assertEqual(told.places, tuple(sorted(places[0] for places in classes)))
                pairs = {
                    (one[0], other[0]) for one, other in itertools.permutations(classes, 2)
                    if all(first or not second for first, second in zip(classes[one], classes[other]))}
                self.assertEqual(set(told.pairs), pairs)
                self.check_unions(order, weights, told)

    def check_unions(self, order, weights, told):
        """The heaviest lots are the least one and the classes of one closed lot, each told once."""
        least = least_heaviest(order, weights)
        classes = {places[0]: places for places in heavy_classes(order, weights)}
        unions = [
            tuple(sorted(least + tuple(place for name in lot for place in classes[name])))
            for lot in closed_lots(told)]
        self.assertEqual(tuple(sorted(unions)), heaviest_lots(order, weights))

    def test_edges(self):
        zero = {place: 0 for place in SEVEN}
        self.assertEqual(heavy_classes(Order.flat(SEVEN), zero), tuple((place,) for place in SEVEN))
        self.assertEqual(heavy_order(Order.flat(SEVEN), zero), Order.flat(SEVEN))
        self.assertEqual(heavy_order(Order.chain(SEVEN), zero), Order.chain(SEVEN))
        self.assertEqual(heavy_order(CHAIN_FORTY, {place: 0 for place in NAMES}), CHAIN_FORTY)
        self.assertEqual(heavy_classes(ONE, {"a": 1}), ())
        self.assertIsNone(heavy_order(ONE, {"a": -1}))
        self.assertEqual(heavy_order(ONE, {"a": 0}), ONE)
        self.assertEqual(heavy_classes(PAIRS, {"a": -1, "b": 1, "c": 1, "d": 0}), (("a", "b"), ("d",)))
        self.assertEqual(heavy_order(JUST_4000, {place: 0 for place in JUST_4000}), JUST_4000)
        self.assertEqual(heavy_order(LEVELS, {place: 0 for place in NAMES}), LEVELS)
        weights = {place: (-1) ** k for k, place in enumerate(NAMES)}
        chain = with_pairs(FLAT_FORTY, zip(NAMES, NAMES[1:]))
        self.assertEqual(heavy_classes(chain, weights), tuple(zip(NAMES[1::2], NAMES[2::2])))
        self.assertEqual(heavy_order(chain, weights), chain.within(NAMES[1:38:2]))


class WrongArgumentsTest(unittest.TestCase):
    def test_weights(self):
        for order in (ONE, VEE, CROWN):
            good = {place: 1 for place in order}
            weights = weights_case(order, good, -1000, 1000)
            for call in PLAIN:
                check_cases(self, call, order_case(order), weights)
            check_cases(self, weight_of, order_case(order), weights, lot_case(order, ("a",)))
            check_cases(self, is_weight_paper, order_case(order), weights, free_case(None))

    def test_payments(self):
        good = {"a": 1, "b": 2, "c": 3}
        bad = odd_but(lambda value: slow_payments(VEE, value))
        bad += [{("a", "b"): 1}, {("b", "a"): 0}, {("b", "a"): True}, {("b", "c"): 1}, {("b", "b"): 1}, {"b": 1},
            [("b", "a")]]
        payments = Case({("b", "a"): 1}, bad, InvalidOperation)
        check_cases(self, left_over, order_case(VEE), weights_case(VEE, good, -1000, 1000), payments)
        check_cases(self, is_payments, order_case(VEE), free_case({}))

    def test_too_many(self):
        for order in (FLAT_FORTY, JUST_4001):
            weights = {place: 0 for place in order}
            for call in (heaviest_lots, heavy_classes, heavy_order):
                check_too_many(self, call, order, weights)
                with self.assertRaises(InvalidOperation):
                    call(order, {**weights, order.places[0]: 1001})
            self.assertEqual(greatest_weight(order, weights), 0)
            self.assertEqual((least_heaviest(order, weights), greatest_heaviest(order, weights)), ((), order.places))
        self.assertEqual(len(heaviest_lots(JUST_4000, {place: 0 for place in JUST_4000})), 4000)
        with self.assertRaises(InvalidLot):
            weight_of(FLAT_FORTY, {place: 0 for place in NAMES}, NAMES[1::-1])


if __name__ == "__main__":
    unittest.main()
