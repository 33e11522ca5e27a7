"""Means and critical fractions [18.1] to [18.4]."""

import itertools
import random
import unittest
from fractions import Fraction

from downsets.base.lots import closed_lots
from downsets.base.orders import Order
from downsets.base.words import is_fraction
from downsets.errors import InvalidLot, InvalidOperation
from downsets.heavy.fractions import (
    blocks, critical_fractions, greatest_mean, heaviest_at, is_mean_paper, length_of, mean_of, mean_paper, nested_lots)
from tests.helper import (
    BOOLEAN, CHAIN_FORTY, EXAMPLES, FLAT, FLAT_FORTY, FORTY, JUST_4001, LEVELS, NAMES, ODD_VALUES, ONE, SEVEN, VEE,
    ZIG, Case, all_lots, check_cases, check_error, check_judge, check_spoilt, five_orders, free_case, lot_case,
    no_lots, odd_but, order_case, same, slow_closed, slow_closed_lots, small_orders, spread_orders, weights_case)
from tests.test_heavy import loads, slow_left, slow_payments, slow_weight

SMALL = small_orders()
SOME = SMALL + five_orders(53) + spread_orders()
LARGE = (BOOLEAN, FORTY, FLAT_FORTY, CHAIN_FORTY, LEVELS, JUST_4001)


def spans(order, chance, most):
    return {place: chance.randint(1, most) for place in order}


def loads_and_spans(order, chance):
    """Some weights and lengths of an order, with and without ties."""
    for most, longest in ((1, 1), (2, 2), (5, 3), (1000, 1000)):
        yield loads(order, chance, most), spans(order, chance, longest)
    yield {place: chance.choice((-1, 2)) for place in order}, {place: 1 for place in order}
    yield {place: -3 for place in order}, spans(order, chance, 3)


def pair(number):
    return (number.numerator, number.denominator)


def slow_mean(weights, lengths, lot):
    return Fraction(slow_weight(weights, lot), slow_weight(lengths, lot))


def slow_at(order, weights, lengths, level):
    """All lots that are heaviest at a fraction."""
    weighed = {lot: slow_weight(weights, lot) - level * slow_weight(lengths, lot) for lot in slow_closed_lots(order)}
    return [lot for lot in weighed if weighed[lot] == max(weighed.values())]


def slow_critical(order, weights, lengths):
    """All fractions at which two lots or more are heaviest, the greatest one first."""
    weighed = {(slow_weight(weights, lot), slow_weight(lengths, lot)) for lot in slow_closed_lots(order)}
    levels = {Fraction(one[0] - two[0], one[1] - two[1]) for one in weighed for two in weighed if one[1] != two[1]}
    found = []
    for level in levels:
        values = [weight - level * length for weight, length in weighed]
        if values.count(max(values)) > 1:
            found.append(level)
    return sorted(found, reverse=True)


def levels_between(critical):
    """Fractions that are not critical: above all, between each two, below all."""
    ends = [critical[0] + 1] + critical + [critical[-1] - 1]
    return [(ends[k] + ends[k + 1]) / 2 if 0 < k < len(ends) - 2 else ends[0 if k == 0 else -1]
            for k in range(len(ends) - 1)]


def slow_paper(order, weights, lengths, value):
    if not isinstance(value, tuple) or len(value) != 3 or value[0] != "mean":
        return False
    _, lot, payments = value
    if not any(same(lot, other) for other in slow_closed_lots(order) if other) or not slow_payments(order, payments):
        return False
    mean = slow_mean(weights, lengths, lot)
    numbers = {place: mean.denominator * weights[place] - mean.numerator * lengths[place] for place in order}
    return all(left <= 0 for left in slow_left(numbers, payments).values())


class MeanTest(unittest.TestCase):
    def test_lengths_and_means(self):
        chance = random.Random(18)
        for order in SMALL[::5] + spread_orders():
            weights, lengths = loads(order, chance, 1000), spans(order, chance, 1000)
            for lot in all_lots(order.places):
                self.assertEqual(length_of(order, lengths, lot), slow_weight(lengths, lot))
                if lot:
                    told = mean_of(order, weights, lengths, lot)
                    self.assertEqual(told, pair(slow_mean(weights, lengths, lot)))
                    self.assertTrue(is_fraction(told))

    def test_heaviest_at(self):
        chance = random.Random(180)
        for order in SOME[::2]:
            for weights, lengths in loads_and_spans(order, chance):
                levels = [Fraction(chance.randint(-9, 9), chance.randint(1, 4)) for _ in range(3)]
                for level in levels + slow_critical(order, weights, lengths)[:3]:
                    found = slow_at(order, weights, lengths, level)
                    least, greatest = heaviest_at(order, weights, lengths, pair(level))
                    self.assertEqual((least, greatest), (min(found, key=len), max(found, key=len)))

    def test_nested_at_lower_fractions(self):
        chance = random.Random(181)
        for order in SOME[::9]:
            for weights, lengths in loads_and_spans(order, chance):
                low, high = sorted(Fraction(chance.randint(-5, 5), chance.randint(1, 3)) for _ in range(2))
                if low < high:
                    for late in slow_at(order, weights, lengths, low):
                        for early in slow_at(order, weights, lengths, high):
                            self.assertLessEqual(set(early), set(late))

    def test_critical_fractions(self):
        chance = random.Random(182)
        for order in SOME:
            for weights, lengths in loads_and_spans(order, chance):
                critical = slow_critical(order, weights, lengths)
                told = critical_fractions(order, weights, lengths)
                self.assertEqual(told, tuple(map(pair, critical)))
                self.assertTrue(1 <= len(told) <= len(order))
                self.check_nested(order, weights, lengths, critical)

    def check_nested(self, order, weights, lengths, critical):
        nested = []
        for level in levels_between(critical):
            found = slow_at(order, weights, lengths, level)
            self.assertEqual(len(found), 1)
            nested += found
        self.assertEqual(nested_lots(order, weights, lengths), tuple(nested))
        self.assertEqual((nested[0], nested[-1]), ((), order.places))
        told = blocks(order, weights, lengths)
        self.assertEqual(told, tuple(
            tuple(sorted(set(late) - set(early))) for early, late in zip(nested, nested[1:])))
        for k, level in enumerate(critical):
            self.assertEqual(heaviest_at(order, weights, lengths, pair(level)), (nested[k], nested[k + 1]))
            self.check_block(order.within(told[k]), weights, lengths, level)

    def check_block(self, inner, weights, lengths, level):
        """No closed lot of a block has a greater mean, and no rest of one a lesser one."""
        self.assertEqual(slow_mean(weights, lengths, inner.places), level)
        for lot in slow_closed_lots(inner):
            rest = tuple(place for place in inner if place not in lot)
            if lot:
                self.assertLessEqual(slow_mean(weights, lengths, lot), level)
            if rest:
                self.assertGreaterEqual(slow_mean(weights, lengths, rest), level)

    def test_greatest_means(self):
        chance = random.Random(183)
        for order in SOME:
            for weights, lengths in loads_and_spans(order, chance):
                means = {lot: slow_mean(weights, lengths, lot) for lot in slow_closed_lots(order) if lot}
                most = max(means.values())
                lot = max((lot for lot in means if means[lot] == most), key=len)
                self.assertEqual(greatest_mean(order, weights, lengths), (pair(most), lot))
                self.assertEqual(critical_fractions(order, weights, lengths)[0], pair(most))

    def test_edges(self):
        self.assertEqual(critical_fractions(ONE, {"a": -1000}, {"a": 1}), ((-1000, 1),))
        self.assertEqual(critical_fractions(ONE, {"a": 1000}, {"a": 1000}), ((1, 1),))
        self.assertEqual(nested_lots(ONE, {"a": 0}, {"a": 7}), ((), ("a",)))
        self.assertEqual(blocks(ONE, {"a": 0}, {"a": 7}), (("a",),))
        self.assertEqual(greatest_mean(ONE, {"a": 0}, {"a": 7}), ((0, 1), ("a",)))
        self.assertEqual(heaviest_at(ONE, {"a": 0}, {"a": 7}, (0, 1)), ((), ("a",)))
        self.assertEqual(heaviest_at(ONE, {"a": 0}, {"a": 7}, (-1, 999999999999)), (("a",), ("a",)))
        self.assertEqual(heaviest_at(ONE, {"a": 0}, {"a": 7}, (1, 999999999999)), ((), ()))
        equal = {place: 3 for place in SEVEN}
        for order in (Order.flat(SEVEN), Order.chain(SEVEN)):
            self.assertEqual(blocks(order, equal, equal), (SEVEN,))
        numbers = {place: k for k, place in enumerate(SEVEN)}
        units = {place: 1 for place in SEVEN}
        self.assertEqual(blocks(Order.flat(SEVEN), numbers, units), tuple((place,) for place in SEVEN[::-1]))
        self.assertEqual(blocks(Order.chain(SEVEN), numbers, units), (SEVEN,))
        self.assertEqual(blocks(Order.chain(SEVEN[::-1]), numbers, units), tuple((place,) for place in SEVEN[::-1]))

    def test_many_places(self):
        chance = random.Random(184)
        for order in LARGE:
            weights, lengths = loads(order, chance, 1000), spans(order, chance, 1000)
            nested = nested_lots(order, weights, lengths)
            critical = critical_fractions(order, weights, lengths)
            self.assertTrue(all(slow_closed(order, lot) for lot in nested))
            self.assertEqual([Fraction(*level) for level in critical], sorted(
                {Fraction(*level) for level in critical}, reverse=True))
            for k, level in enumerate(critical):
                self.assertEqual(heaviest_at(order, weights, lengths, level), (nested[k], nested[k + 1]))
            paper = mean_paper(order, weights, lengths)
            self.assertIs(is_mean_paper(order, weights, lengths, paper), True)
            self.assertEqual(greatest_mean(order, weights, lengths), (critical[0], nested[1]))
            self.assertEqual(mean_of(order, weights, lengths, paper[1]), critical[0])
            self.assertEqual(length_of(order, lengths, order.places), sum(lengths.values()))
        units = {place: 1 for place in NAMES}
        numbers = {place: k for k, place in enumerate(NAMES)}
        self.assertEqual(len(blocks(FLAT_FORTY, numbers, units)), 40)
        self.assertEqual(len(blocks(CHAIN_FORTY, numbers, units)), 40)
        self.assertEqual(len(blocks(CHAIN_FORTY, {place: -numbers[place] for place in NAMES}, units)), 1)


class PaperTest(unittest.TestCase):
    def test_told_papers(self):
        chance = random.Random(185)
        for order in SOME:
            for weights, lengths in loads_and_spans(order, chance):
                paper = mean_paper(order, weights, lengths)
                self.assertTrue(slow_paper(order, weights, lengths, paper), paper)
                self.assertIs(is_mean_paper(order, weights, lengths, paper), True)
                self.assertEqual(list(paper[2]), sorted(paper[2]))

    def test_all_papers_of_small_orders(self):
        chance = random.Random(186)
        for order in small_orders(3):
            pairs = [step[::-1] for step in order.pairs]
            for weights, lengths in itertools.islice(loads_and_spans(order, chance), 3):
                found = 0
                for row in itertools.product(range(4), repeat=len(pairs)):
                    payments = {step: many for step, many in zip(pairs, row) if many}
                    for lot in all_lots(order.places):
                        value = ("mean", lot, payments)
                        good = slow_paper(order, weights, lengths, value)
                        found += good
                        self.assertIs(is_mean_paper(order, weights, lengths, value), good)
                self.assertTrue(found or pairs)

    def test_papers_of_others(self):
        weights, lengths = {"a": 1, "b": 2, "c": 6, "d": 1}, {"a": 1, "b": 1, "c": 2, "d": 1}
        for payments in ({("c", "b"): 1, ("c", "a"): 5}, {("c", "a"): 5, ("c", "b"): 1}):
            self.assertIs(is_mean_paper(ZIG, weights, lengths, ("mean", ("a", "b", "c"), payments)), True)
        self.assertIs(is_mean_paper(ZIG, weights, lengths, ("mean", ("a", "b"), {("c", "a"): 5, ("c", "b"): 1})), False)
        self.assertIs(is_mean_paper(ZIG, weights, lengths, ("mean", (), {("c", "a"): 5, ("c", "b"): 1})), False)
        ties = {"a": 1, "b": 1, "c": 1}
        for lot in closed_lots(FLAT)[1:]:
            self.assertIs(is_mean_paper(FLAT, ties, ties, ("mean", lot, {})), True)

    def test_spoilt_papers(self):
        for order, weights, lengths in (
                (ONE, {"a": -4}, {"a": 6}), (VEE, {"a": 1, "b": 4, "c": 2}, {"a": 2, "b": 1, "c": 1}),
                (ZIG, {"a": 1, "b": 2, "c": 6, "d": 1}, {"a": 1, "b": 1, "c": 2, "d": 1}),
                (FLAT, {"a": 0, "b": 0, "c": -1}, {"a": 1, "b": 3, "c": 2})):
            check_spoilt(
                self, lambda value: is_mean_paper(order, weights, lengths, value),
                lambda value: slow_paper(order, weights, lengths, value), mean_paper(order, weights, lengths))

    def test_judge_takes_all_values(self):
        for order in EXAMPLES:
            weights = {place: 1 for place in order}
            paper = mean_paper(order, weights, weights)
            check_judge(self, lambda value: is_mean_paper(order, weights, weights, value))
            for bad in ODD_VALUES:
                for k in range(3):
                    value = paper[:k] + (bad,) + paper[k + 1:]
                    self.assertIs(
                        is_mean_paper(order, weights, weights, value), slow_paper(order, weights, weights, value))


class WrongArgumentsTest(unittest.TestCase):
    def test_weights_and_lengths(self):
        for order in (ONE, VEE):
            good = {place: 1 for place in order}
            weights, lengths = weights_case(order, good, -1000, 1000), weights_case(order, good, 1, 1000)
            for call in (critical_fractions, nested_lots, blocks, greatest_mean, mean_paper):
                check_cases(self, call, order_case(order), weights, lengths)
            check_cases(self, is_mean_paper, order_case(order), weights, lengths, free_case(None))
            check_cases(self, length_of, order_case(order), lengths, lot_case(order, ("a",)))
            lots = Case(("a",), no_lots(order) + [()], InvalidLot)
            check_cases(self, mean_of, order_case(order), weights, lengths, lots)
            levels = odd_but(is_fraction) + [(2, 4), (1, 0), (1, -1), (0, 2), (True, 1), (1, True), [1, 2], (1,),
                (1, 2, 3)]
            check_cases(
                self, heaviest_at, order_case(order), weights, lengths, Case((1, 2), levels, InvalidOperation))

    def test_bounds_and_what_comes_first(self):
        for weights, lengths in (({"a": -1001}, {"a": 1}), ({"a": 1001}, {"a": 1}), ({"a": 1}, {"a": 0}),
                                 ({"a": 1}, {"a": 1001}), ({"a": 1}, {"a": -1}), ({}, {"a": 1}), ({"a": 1}, {})):
            check_error(self, mean_of, [ONE, weights, lengths, None], Case(None, [], InvalidOperation), None)
        check_error(self, mean_of, [ONE, {"a": -1000}, {"a": 1000}, None], Case(None, [], InvalidLot), None)
        self.assertEqual(length_of(FLAT_FORTY, {place: 1000 for place in NAMES}, NAMES), 40000)


if __name__ == "__main__":
    unittest.main()
