"""Cheapest line-ups and ladders [0.20], [19.1] to [19.3]."""

import itertools
import random
import unittest
from fractions import Fraction

from downsets.base.orders import Order
from downsets.errors import InvalidLineup, InvalidLot, InvalidOperation, InvalidOrder
from downsets.heavy.costs import (
    cheapest_along, cheapest_lineup, cost, cost_paper, does_go_along, ends, is_cost_paper, is_ladder, ladder,
    least_cost)
from downsets.heavy.fractions import nested_lots
from downsets.ways.lineups import is_lineup
from tests.helper import (
    EXAMPLES, FLAT, FLAT_FORTY, JUST_4000, JUST_4001, NAMES, ODD_VALUES, ONE, SEVEN, VEE, ZIG, Case, all_lots,
    check_cases, check_error, check_judge, check_spoilt, check_too_many, five_orders, free_case, is_key, lineup_case,
    no_closed, no_lots, odd_but, order_case, same, slow_closed_lots, slow_lineups, small_orders, spread_orders,
    weights_case)
from tests.test_fractions import loads_and_spans, spans
from tests.test_heavy import loads, slow_weight

SMALL = small_orders()
SOME = SMALL + five_orders(89) + spread_orders()[2:5]
HARD = Order(tuple("abcd"), (("a", "b"), ("c", "d")))


def slow_ends(lengths, lineup):
    return {place: sum(lengths[name] for name in lineup[:lineup.index(place) + 1]) for place in sorted(lineup)}


def slow_cost(weights, lengths, lineup):
    return sum(weights[place] * slow_ends(lengths, lineup)[place] for place in lineup)


def slow_costs(order, weights, lengths):
    return {row: slow_cost(weights, lengths, row) for row in slow_lineups(order)}


def slow_paper(order, weights, lengths, value):
    """By the words of [19.2]."""
    if not isinstance(value, tuple) or len(value) != 3 or value[0] != "table" or not isinstance(value[2], dict):
        return False
    _, lineup, values = value
    lots = slow_closed_lots(order)
    if not any(same(lineup, row) for row in slow_lineups(order)) or set(values) != set(lots):
        return False
    if not all(type(number) is int for number in values.values()) or values[()] != 0:
        return False
    for less, more in itertools.permutations(lots, 2):
        if set(less) < set(more) and len(more) == len(less) + 1:
            place, = set(more) - set(less)
            if values[more] > values[less] + weights[place] * slow_weight(lengths, more):
                return False
    return values[order.places] == slow_cost(weights, lengths, lineup)


def gain(weights, lengths, less, more):
    added = set(more) - set(less)
    return Fraction(slow_weight(weights, added), slow_weight(lengths, added))


def slow_rungs(order, weights, lengths, less):
    """The closed lots with the greatest gain from a lot."""
    gains = {lot: gain(weights, lengths, less, lot) for lot in slow_closed_lots(order) if set(less) < set(lot)}
    return [lot for lot in gains if gains[lot] == max(gains.values())]


def all_ladders(order, weights, lengths):
    found, edge = [], [((), ())]
    while edge:
        edge = [
            (row + (lot,), lot) for row, last in edge for lot in slow_rungs(order, weights, lengths, last)]
        found += [row for row, last in edge if last == order.places]
        edge = [(row, last) for row, last in edge if last != order.places]
    return found


def slow_along(lineup, lots):
    return all(set(lineup[:len(lot)]) == set(lot) for lot in lots)


def are_lots(order, value):
    return isinstance(value, tuple) and all(any(same(lot, other) for other in all_lots(order.places)) for lot in value)


def in_tuples(values):
    """Each value alone in a tuple; errors are left out, since their copies are unlike them."""
    return [(value,) for value in values if not isinstance(value, BaseException)]


class CostTest(unittest.TestCase):
    def test_ends_and_costs(self):
        chance = random.Random(19)
        for order in SOME[::3]:
            for weights, lengths in loads_and_spans(order, chance):
                for row in slow_lineups(order)[:20]:
                    told = ends(order, lengths, row)
                    self.assertTrue(same(told, slow_ends(lengths, row)))
                    self.assertEqual(cost(order, weights, lengths, row), slow_cost(weights, lengths, row))

    def test_cheapest_lineups(self):
        chance = random.Random(190)
        for order in SOME:
            for weights, lengths in loads_and_spans(order, chance):
                costs = slow_costs(order, weights, lengths)
                least = min(costs.values())
                self.assertEqual(least_cost(order, weights, lengths), least)
                told = cheapest_lineup(order, weights, lengths)
                self.assertEqual(costs[told], least)
                self.assertIs(type(told), tuple)

    def test_edges(self):
        self.assertEqual(ends(ONE, {"a": 1000}, ("a",)), {"a": 1000})
        self.assertEqual(cost(ONE, {"a": -1000}, {"a": 1000}, ("a",)), -1000000)
        self.assertEqual(cost_paper(ONE, {"a": 3}, {"a": 2}), ("table", ("a",), {(): 0, ("a",): 6}))
        self.assertEqual(ladder(ONE, {"a": -3}, {"a": 2}), (("a",),))
        units = {place: 1 for place in SEVEN}
        self.assertEqual(least_cost(Order.flat(SEVEN), {place: 0 for place in SEVEN}, units), 0)
        weights = {place: k for k, place in enumerate(SEVEN)}
        self.assertEqual(cheapest_lineup(Order.flat(SEVEN), weights, units), SEVEN[::-1])
        self.assertEqual(cheapest_lineup(Order.chain(SEVEN), weights, units), SEVEN)
        lots = tuple(tuple(sorted(SEVEN[k:])) for k in range(6, -1, -1))
        self.assertEqual(ladder(Order.flat(SEVEN), weights, units), lots)

    def test_the_next_place_need_not_have_the_greatest_mean(self):
        # [0.21]: d weighs most for its length behind c, which weighs nothing.
        weights, units = {"a": 2, "b": 1, "c": 0, "d": 9}, {place: 1 for place in HARD}
        self.assertEqual(cheapest_lineup(HARD, weights, units), ("c", "d", "a", "b"))

    def test_many_places(self):
        chance = random.Random(191)
        order = JUST_4000
        weights, lengths = loads(order, chance, 1000), spans(order, chance, 1000)
        paper = cost_paper(order, weights, lengths)
        self.assertIs(is_cost_paper(order, weights, lengths, paper), True)
        self.assertEqual(len(paper[2]), 4000)
        self.assertEqual(cost(order, weights, lengths, paper[1]), least_cost(order, weights, lengths))
        self.assertEqual(paper[2][order.places], least_cost(order, weights, lengths))
        lots = ladder(order, weights, lengths)
        self.assertIs(is_ladder(order, weights, lengths, lots), True)
        row = cheapest_along(order, weights, lengths, lots)
        self.assertIs(does_go_along(order, row, lots), True)
        self.assertEqual(cost(order, weights, lengths, row), least_cost(order, weights, lengths))
        flat = FLAT_FORTY.within(NAMES[:11])
        lengths, weights = {place: 1 for place in flat}, {place: k for k, place in enumerate(flat)}
        self.assertEqual(cheapest_lineup(flat, weights, lengths), NAMES[10::-1])
        # Places without an order are cheapest by their means, the greatest first.
        weights, lengths = loads(flat, chance, 99), spans(flat, chance, 9)
        row = sorted(flat, key=lambda place: Fraction(-weights[place], lengths[place]))
        self.assertEqual(least_cost(flat, weights, lengths), slow_cost(weights, lengths, row))


class PaperTest(unittest.TestCase):
    def test_told_papers(self):
        chance = random.Random(192)
        for order in SOME:
            for weights, lengths in loads_and_spans(order, chance):
                paper = cost_paper(order, weights, lengths)
                self.assertIs(is_cost_paper(order, weights, lengths, paper), True)
                self.assertEqual(list(paper[2]), list(slow_closed_lots(order)))
                if len(order) < 6:
                    self.assertTrue(slow_paper(order, weights, lengths, paper))

    def test_papers_of_others(self):
        chance = random.Random(193)
        for order in SMALL[::2] + five_orders(997):
            for weights, lengths in itertools.islice(loads_and_spans(order, chance), 3):
                _, row, values = cost_paper(order, weights, lengths)
                for other in slow_lineups(order)[:4]:
                    value = ("table", other, dict(reversed(values.items())))
                    self.assertIs(is_cost_paper(order, weights, lengths, value),
                        slow_paper(order, weights, lengths, value))
                for lot in values:
                    for step in (-1, 1, -10 ** 6, 10 ** 6):
                        value = ("table", row, {**values, lot: values[lot] + step})
                        self.assertIs(
                            is_cost_paper(order, weights, lengths, value), slow_paper(order, weights, lengths, value))

    def test_all_small_tables(self):
        order, weights, lengths = FLAT.within(("a", "b")), {"a": 1, "b": -1}, {"a": 1, "b": 2}
        found = 0
        for row in itertools.product(range(-4, 5), repeat=3):
            values = dict(zip(slow_closed_lots(order), (0,) + row))
            for lineup in (("a", "b"), ("b", "a")):
                value = ("table", lineup, values)
                good = slow_paper(order, weights, lengths, value)
                found += good
                self.assertIs(is_cost_paper(order, weights, lengths, value), good)
        self.assertGreater(found, 1)

    def test_spoilt_papers(self):
        for order, weights, lengths in (
                (ONE, {"a": 1}, {"a": 1}), (VEE, {"a": 0, "b": 10, "c": 1}, {"a": 1, "b": 1, "c": 1}),
                (Order.chain(("b", "a")), {"a": -1, "b": 1}, {"a": 2, "b": 1}),
                (FLAT, {"a": 1, "b": 2, "c": 0}, {"a": 1, "b": 1, "c": 2})):
            check_spoilt(
                self, lambda value: is_cost_paper(order, weights, lengths, value),
                lambda value: slow_paper(order, weights, lengths, value), cost_paper(order, weights, lengths))

    def test_judge_takes_all_values(self):
        for order in EXAMPLES:
            weights = {place: 1 for place in order}
            paper = cost_paper(order, weights, weights)
            check_judge(self, lambda value: is_cost_paper(order, weights, weights, value))
            check_judge(self, lambda value: is_ladder(order, weights, weights, value))
            for bad in ODD_VALUES:
                for k in range(3):
                    value = paper[:k] + (bad,) + paper[k + 1:]
                    self.assertIs(
                        is_cost_paper(order, weights, weights, value), slow_paper(order, weights, weights, value))
                for key in (("a",), ()):
                    value = ("table", paper[1], {**paper[2], key: bad})
                    self.assertIs(
                        is_cost_paper(order, weights, weights, value), slow_paper(order, weights, weights, value))
                if is_key(bad) and bad not in paper[2]:
                    self.assertIs(is_cost_paper(order, weights, weights, paper[:2] + ({**paper[2], bad: 0},)), False)


class LadderTest(unittest.TestCase):
    def test_all_ladders(self):
        chance = random.Random(194)
        for order in SMALL[::2] + five_orders(499):
            for weights, lengths in itertools.islice(loads_and_spans(order, chance), 4):
                found = all_ladders(order, weights, lengths)
                told = ladder(order, weights, lengths)
                self.assertIn(told, found)
                self.assertIn(nested_lots(order, weights, lengths)[1:], found)
                costs = slow_costs(order, weights, lengths)
                for lots in found[:12]:
                    self.assertIs(is_ladder(order, weights, lengths, lots), True)
                    row = cheapest_along(order, weights, lengths, lots)
                    self.assertEqual(costs[row], min(costs.values()))
                    self.assertTrue(slow_along(row, lots))
                    for k in range(len(lots)):
                        less = lots[:k] + lots[k + 1:]
                        self.assertIs(is_ladder(order, weights, lengths, less), less in found)

    def test_all_rows_of_closed_lots(self):
        chance = random.Random(195)
        for order in small_orders(3):
            for weights, lengths in itertools.islice(loads_and_spans(order, chance), 3):
                found = all_ladders(order, weights, lengths)
                for many in range(4):
                    for lots in itertools.product(all_lots(order.places), repeat=many):
                        self.assertIs(is_ladder(order, weights, lengths, lots), lots in found)

    def test_going_along(self):
        for order in small_orders(3) + SMALL[23::20]:
            lots = all_lots(order.places)
            for row in slow_lineups(order):
                self.assertIs(does_go_along(order, row, ()), True)
                for lot in lots:
                    self.assertIs(does_go_along(order, row, (lot,)), slow_along(row, (lot,)))
                for two in itertools.product(lots[::2], lots[1::3]):
                    self.assertIs(does_go_along(order, row, two), slow_along(row, two))

    def test_spoilt_ladders(self):
        for order, weights, lengths in (
                (ONE, {"a": 1}, {"a": 1}), (VEE, {"a": 0, "b": 10, "c": 1}, {"a": 1, "b": 1, "c": 1}),
                (ZIG, {"a": 3, "b": 1, "c": 2, "d": 4}, {"a": 2, "b": 1, "c": 1, "d": 3})):
            found = all_ladders(order, weights, lengths)
            check_spoilt(
                self, lambda value: is_ladder(order, weights, lengths, value),
                lambda value: any(same(value, lots) for lots in found), ladder(order, weights, lengths))


class WrongArgumentsTest(unittest.TestCase):
    def test_weights_and_lengths(self):
        for order in (ONE, VEE):
            good = {place: 1 for place in order}
            row = slow_lineups(order)[0]
            weights, lengths = weights_case(order, good, -1000, 1000), weights_case(order, good, 1, 1000)
            lineup = lineup_case(order, row)
            for call in (least_cost, cheapest_lineup, cost_paper, ladder):
                check_cases(self, call, order_case(order), weights, lengths)
            for call in (is_cost_paper, is_ladder):
                check_cases(self, call, order_case(order), weights, lengths, free_case(None))
            check_cases(self, ends, order_case(order), lengths, lineup)
            check_cases(self, cost, order_case(order), weights, lengths, lineup)
            lots = odd_but(lambda value: are_lots(order, value))
            lots += in_tuples(no_lots(order)) + [((), None), [("a",)]]
            check_cases(self, does_go_along, order_case(order), lineup, Case((("a",),), lots, InvalidLot))
            found = all_ladders(order, good, good)
            bad = odd_but(lambda value: any(same(value, lots) for lots in found))
            bad += in_tuples(no_closed(order)) + [(), ((),), (order.places, order.places), [order.places]]
            ladders = Case(ladder(order, good, good), bad, InvalidOperation)
            check_cases(self, cheapest_along, order_case(order), weights, lengths, ladders)

    def test_too_many_comes_behind_all_but_ladders(self):
        for order in (JUST_4001, FLAT_FORTY):
            good = {place: 1 for place in order}
            for call in (least_cost, cheapest_lineup, cost_paper, ladder):
                check_too_many(self, call, order, good, good)
                for arguments in ([order, None, good], [order, good, {}]):
                    check_error(self, call, arguments, Case(None, [], InvalidOperation), None)
            for call in (is_cost_paper, is_ladder, cheapest_along):
                for value in (None, (), (order.places,), ("table", order.places, {})):
                    check_too_many(self, call, order, good, good, value)
                check_error(self, call, [order, good, None, None], Case(None, [], InvalidOperation), None)
                check_error(self, call, [None, good, good, None], Case(None, [], InvalidOrder), None)
            row = tuple(sorted(order.places, key=lambda place: len(order.ahead(place))))
            self.assertTrue(is_lineup(order, row))
            self.assertEqual(cost(order, good, good, row), sum(range(len(order) + 1)))
            self.assertIs(does_go_along(order, row, (order.places,)), True)
            check_error(self, ends, [order, good, row[1:]], Case(None, [], InvalidLineup), None)


if __name__ == "__main__":
    unittest.main()
