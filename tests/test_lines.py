"""Maps into a line [0.16], [9.1] to [9.4]."""

import itertools
import math
import types
import unittest

from downsets.base.lots import closed_lots, closed_number
from downsets.base.orders import Order
from downsets.errors import InvalidLineup, InvalidNumber, InvalidOperation, InvalidOrder
from downsets.maps.lines import (
    is_strict_map, is_weak_map, lineup_of_map, lots_of_map, map_of_lots, maps_along, strict_chains, strict_maps,
    strict_number, turn_numbers, turns, weak_chains, weak_maps, weak_number)
from downsets.wide.widths import height
from tests.helper import (
    BOOLEAN, CHAIN_FORTY, CROWN, EXAMPLES, FLAT, FLAT_FORTY, FORTY, JUST_4000, JUST_4001, NAMES, NO_ORDERS, ONE,
    PAIRS, SEVEN, SQUARE, VEE, ZIG, Case, all_lots, check_cases, check_error, check_judge, check_late, check_spoilt,
    check_too_many, five_orders, free_case, lineup_case, no_lineups, no_number_dicts, no_numbers, odd_but, order_case,
    same, slow_closed_lots, slow_lineups, small_orders, spread_orders, with_pairs)

SMALL = small_orders()
SOME = SMALL + five_orders(29) + spread_orders()
TWO_CHAINS = with_pairs(FLAT_FORTY, list(zip(NAMES[:20], NAMES[1:20])) + list(zip(NAMES[20:], NAMES[21:])))


def slow_maps(order, many, gap):
    """All maps into a line in which numbers rise by a gap along pairs, ascending."""
    at = {place: k for k, place in enumerate(order)}
    pairs = [(at[one], at[other]) for one, other in order.pairs]
    return [dict(zip(order.places, row)) for row in itertools.product(range(1, many + 1), repeat=len(order))
            if all(row[k] + gap <= row[j] for k, j in pairs)]


def slow_numbers(order, gap, numbers):
    """The numbers of maps into some lines, told for any integer by those into the first few."""
    row = [len(slow_maps(order, many, gap)) for many in range(len(order) + 1)]
    parts = []
    while row:
        parts.append(row[0])
        row = [after - before for before, after in zip(row, row[1:])]
    return [sum(part * slow_binomial(number, k) for k, part in enumerate(parts)) for number in numbers]


def slow_chains(order, is_strict):
    """The numbers of chains of closed lots by their steps."""
    lots = slow_closed_lots(order)
    ways = {(): 1}
    found = [0]
    for _ in range(len(order)):
        longer = {}
        for low in ways:
            for high in lots:
                more = [place for place in high if place not in low]
                bare = not any(one in more and other in more for one, other in order.pairs)
                if set(low) < set(high) and (bare or not is_strict):
                    longer[high] = longer.get(high, 0) + ways[low]
        ways = longer
        found.append(ways.get(order.places, 0))
    return tuple(found)


def slow_turns(lineup, second):
    return sum(second.index(one) > second.index(other) for one, other in zip(lineup, lineup[1:]))


def slow_lineup(numbers, second):
    return tuple(sorted(second, key=lambda place: (numbers[place], second.index(place))))


def slow_binomial(number, many):
    product = 1
    for k in range(many):
        product *= number - k
    return product // math.factorial(many)


class MapTest(unittest.TestCase):
    def test_all_maps(self):
        for order in SMALL + five_orders(97):
            for many in (1, 2, 3, 4) if len(order) < 5 else (2, 3):
                weak, strict = slow_maps(order, many, 0), slow_maps(order, many, 1)
                for call, told in ((weak_maps, weak), (strict_maps, strict)):
                    found = list(call(order, many))
                    self.assertTrue(all(map(same, found, told)) and len(found) == len(told))

    def test_some_more_places(self):
        for order in spread_orders():
            for many in (1, 2):
                self.assertEqual(list(weak_maps(order, many)), slow_maps(order, many, 0))
            self.assertEqual(list(strict_maps(order, 3)), slow_maps(order, 3, 1))
            self.assertEqual(list(strict_maps(order, height(order) - 1)) if height(order) > 1 else [], [])

    def test_judges(self):
        for order in SMALL[::2]:
            for many in (1, 2, 3):
                weak, strict = slow_maps(order, many, 0), slow_maps(order, many, 1)
                for row in itertools.product(range(5), repeat=len(order)) if len(order) < 4 else weak:
                    value = dict(zip(order.places, row)) if isinstance(row, tuple) else row
                    self.assertIs(is_weak_map(order, many, value), value in weak)
                    self.assertIs(is_strict_map(order, many, value), value in strict)
                    turned = {place: value[place] for place in reversed(list(value))}
                    self.assertIs(is_weak_map(order, many, turned), value in weak)
                    self.assertIs(is_strict_map(order, many, turned), value in strict)

    def test_spoilt_maps(self):
        for order in EXAMPLES:
            for many in (1, 4):
                for judge, gap, found in ((is_weak_map, 0, list(weak_maps(order, many))),
                                          (is_strict_map, 1, list(strict_maps(order, many)))):
                    for value in found[:3] + found[-3:]:
                        maps = slow_maps(order, many, gap)
                        check_spoilt(
                            self, lambda told: judge(order, many, told),
                            lambda told: isinstance(told, dict) and any(
                                same({place: told.get(place) for place in order}, other) for other in maps)
                            and len(told) == len(order), value)

    def test_judges_take_all_values(self):
        for order in EXAMPLES:
            for many in (1, 60):
                check_judge(self, lambda value: is_weak_map(order, many, value))
                check_judge(self, lambda value: is_strict_map(order, many, value))
                for bad in no_number_dicts(order, 1, many):
                    self.assertIs(is_weak_map(order, many, bad), False, repr(bad))
                    self.assertIs(is_strict_map(order, many, bad), False, repr(bad))

    def test_kinds(self):
        for call in (weak_maps, strict_maps):
            found = call(VEE, 3)
            self.assertIsInstance(found, types.GeneratorType)
            first = next(found)
            self.assertEqual((type(first), list(first)), (dict, ["a", "b", "c"]))
            first["a"] = 99
            self.assertEqual(list(found), list(call(VEE, 3))[1:])
        self.assertEqual(list(weak_maps(ONE, 60)), [{"a": k} for k in range(1, 61)])
        self.assertEqual(list(strict_maps(ONE, 1)), [{"a": 1}])
        self.assertEqual(list(weak_maps(Order.chain(("b", "a")), 2)), [
            {"a": 1, "b": 1}, {"a": 2, "b": 1}, {"a": 2, "b": 2}])

    def test_they_are_found_when_they_are_requested(self):
        last = NAMES[-1]
        found = weak_maps(FLAT_FORTY, 60)
        for k in range(1, 61):
            self.assertEqual(next(found), {name: k if name == last else 1 for name in NAMES})
        self.assertEqual(next(found), {name: 2 if name == NAMES[38] else 1 for name in NAMES})
        for many, told in ((39, 0), (40, 1), (41, 41)):
            rows = list(strict_maps(CHAIN_FORTY, many))
            self.assertEqual(len(rows), told)
            self.assertTrue(all(is_strict_map(CHAIN_FORTY, many, row) for row in rows))
        for order in (BOOLEAN, FORTY, TWO_CHAINS, JUST_4001):
            for call, judge in ((weak_maps, is_weak_map), (strict_maps, is_strict_map)):
                rows = list(itertools.islice(call(order, 25), 60))
                self.assertEqual(len(rows), 60)
                self.assertTrue(all(judge(order, 25, row) for row in rows))
                told = [tuple(row.values()) for row in rows]
                self.assertEqual(told, sorted(set(told)))

    def test_generators_raise_at_their_first_element(self):
        for call in (weak_maps, strict_maps):
            for bad in NO_ORDERS:
                check_late(self, call, [bad, 0], InvalidOrder)
            for bad in no_numbers(1, 60):
                check_late(self, call, [ZIG, bad], InvalidNumber)


class NumberTest(unittest.TestCase):
    def test_for_each_integer(self):
        numbers = range(-60, 61)
        for order in SMALL + five_orders(211) + spread_orders()[-1:]:
            weak = [weak_number(order, number) for number in numbers]
            strict = [strict_number(order, number) for number in numbers]
            self.assertEqual(weak, slow_numbers(order, 0, numbers))
            self.assertEqual(strict, slow_numbers(order, 1, numbers))
            self.assertTrue(all(type(value) is int for value in weak + strict))
            self.assertEqual(weak[::-1], strict if len(order) % 2 == 0 else [-value for value in strict])
        for order in spread_orders():
            for number in range(1, 4):
                self.assertEqual(weak_number(order, number), len(slow_maps(order, number, 0)))
                self.assertEqual(strict_number(order, number), len(slow_maps(order, number, 1)))

    def test_closed_lots(self):
        for order in SOME:
            self.assertEqual(weak_number(order, 2), closed_number(order))
            self.assertEqual((weak_number(order, 0), weak_number(order, 1), strict_number(order, 0)), (0, 1, 0))

    def test_chains(self):
        for order in SOME:
            weak, strict = weak_chains(order), strict_chains(order)
            self.assertEqual(weak, slow_chains(order, False))
            self.assertEqual(strict, slow_chains(order, True))
            self.assertEqual((len(weak), len(strict)), (len(order) + 1, len(order) + 1))
            for number in (-60, -3, -1, 0, 1, 5, 60):
                for counts, told in ((weak, weak_number(order, number)), (strict, strict_number(order, number))):
                    self.assertEqual(told, sum(many * slow_binomial(number, k) for k, many in enumerate(counts)))

    def test_edges(self):
        self.assertEqual((weak_chains(ONE), strict_chains(ONE), turn_numbers(ONE)), ((0, 1), (0, 1), (1,)))
        self.assertEqual((weak_number(ONE, 60), weak_number(ONE, -60), strict_number(ONE, -7)), (60, -60, -7))
        for many in (1, 3, 7):
            flat, chain = Order.flat(SEVEN[:many]), Order.chain(SEVEN[:many][::-1])
            for number in range(-60, 61):
                self.assertEqual(weak_number(flat, number), number ** many)
                self.assertEqual(strict_number(flat, number), number ** many)
                self.assertEqual(weak_number(chain, number), slow_binomial(number + many - 1, many))
                self.assertEqual(strict_number(chain, number), slow_binomial(number, many))
        self.assertEqual(turn_numbers(Order.chain(SEVEN)), (1,))
        self.assertEqual(turn_numbers(Order.flat(SEVEN)), (1, 120, 1191, 2416, 1191, 120, 1))

    def test_many_places(self):
        chain = math.comb(60 + 3, 4)
        self.assertEqual(weak_number(JUST_4000, 60), 60 ** 5 * chain ** 3)
        self.assertEqual(strict_number(JUST_4000, 60), 60 ** 5 * math.comb(60, 4) ** 3)
        self.assertEqual(weak_number(JUST_4000, 2), 4000)
        self.assertEqual(weak_number(TWO_CHAINS, 60), math.comb(79, 20) ** 2)
        self.assertEqual(strict_number(TWO_CHAINS, 60), math.comb(60, 20) ** 2)
        self.assertEqual(weak_number(TWO_CHAINS, -60), math.comb(60, 20) ** 2)
        self.assertEqual(sum(turn_numbers(TWO_CHAINS)), math.comb(40, 20))
        self.assertEqual(turn_numbers(TWO_CHAINS)[:2], (1, 21 * 21 - 41))
        self.assertEqual(len(turn_numbers(TWO_CHAINS)), 21)
        self.assertEqual(weak_chains(CHAIN_FORTY), (0,) + tuple(math.comb(39, k) for k in range(40)))
        self.assertEqual(strict_chains(CHAIN_FORTY), (0,) * 40 + (1,))
        self.assertEqual(weak_number(CHAIN_FORTY, 60), math.comb(99, 40))


class TurnTest(unittest.TestCase):
    def test_turns(self):
        for order in SMALL + spread_orders()[2:4]:
            for lineup in slow_lineups(order)[:12]:
                for second in slow_lineups(order)[:12]:
                    self.assertEqual(turns(order, lineup, second), slow_turns(lineup, second))
        self.assertEqual(turns(FLAT_FORTY, NAMES, NAMES[::-1]), 39)
        self.assertEqual(turns(FLAT_FORTY, NAMES, NAMES), 0)
        self.assertEqual(turns(ONE, ("a",), ("a",)), 0)

    def test_turn_numbers(self):
        for order in SOME:
            told = turn_numbers(order)
            rows = slow_lineups(order)
            for second in rows[::1 + len(rows) // 5]:
                found = [slow_turns(row, second) for row in rows]
                self.assertEqual(told, tuple(found.count(k) for k in range(max(found) + 1)))
            self.assertEqual(len(told), len(order) - height(order) + 1)
            if len(told) > 1:
                self.assertEqual(told[1], closed_number(order) - len(order) - 1)

    def test_sums_of_turn_numbers(self):
        for order in SOME[::3]:
            told, many = turn_numbers(order), len(order)
            for number in range(-60, 61, 7):
                self.assertEqual(weak_number(order, number), sum(
                    h * slow_binomial(number + many - 1 - i, many) for i, h in enumerate(told)))
                self.assertEqual(strict_number(order, number), sum(
                    h * slow_binomial(number + i, many) for i, h in enumerate(told)))


class AlongTest(unittest.TestCase):
    def test_lots_of_maps(self):
        for order in SMALL:
            for many in (1, 2, 3):
                for numbers in slow_maps(order, many, 0):
                    lots = lots_of_map(order, many, numbers)
                    self.assertEqual(lots, tuple(
                        tuple(place for place in order if numbers[place] <= top) for top in range(many + 1)))
                    self.assertTrue(same(map_of_lots(order, lots), numbers))

    def test_each_row_of_lots(self):
        for order in SMALL[::9]:
            lots = all_lots(order.places)
            for row in itertools.product(lots, repeat=3) if len(lots) < 17 else ():
                good = row[0] == () and row[2] == order.places and set(row[1]) in map(set, closed_lots(order))
                if good:
                    self.assertEqual(lots_of_map(order, 2, map_of_lots(order, row)), row)
                else:
                    with self.assertRaises(InvalidOperation):
                        map_of_lots(order, row)

    def test_line_ups_of_maps(self):
        for order in SMALL[::2] + spread_orders()[-2:]:
            rows = slow_lineups(order)
            for second in rows[::1 + len(rows) // 3]:
                for many in (1, 2, 3) if len(order) < 5 else (2,):
                    found = {}
                    for numbers in slow_maps(order, many, 0):
                        row = lineup_of_map(order, many, numbers, second)
                        self.assertEqual(row, slow_lineup(numbers, second))
                        self.assertIn(row, rows)
                        found[row] = found.get(row, 0) + 1
                    for row in rows:
                        told = maps_along(order, many, row, second)
                        self.assertEqual(told, found.get(row, 0))
                        self.assertEqual(told, slow_binomial(
                            many + len(order) - 1 - turns(order, row, second), len(order)))

    def test_numbers_in_any_order_of_keys(self):
        self.assertEqual(lots_of_map(VEE, 2, {"c": 2, "b": 1, "a": 1}), ((), ("a", "b"), ("a", "b", "c")))
        self.assertEqual(lineup_of_map(VEE, 2, {"c": 1, "b": 2, "a": 1}, ("a", "b", "c")), ("a", "c", "b"))
        self.assertEqual(list(map_of_lots(VEE, ((), ("a", "c"), ("a", "b", "c")))), ["a", "b", "c"])

    def test_edges(self):
        self.assertEqual(map_of_lots(ONE, ((), ("a",))), {"a": 1})
        self.assertEqual(map_of_lots(ONE, ((),) * 60 + (("a",),)), {"a": 60})
        self.assertEqual(lots_of_map(ONE, 60, {"a": 60}), ((),) * 60 + (("a",),))
        self.assertEqual(lots_of_map(FLAT_FORTY, 1, {name: 1 for name in NAMES}), ((), NAMES))
        self.assertEqual(map_of_lots(FLAT_FORTY, ((), NAMES[1:], NAMES))[NAMES[0]], 2)
        self.assertEqual(maps_along(FLAT_FORTY, 60, NAMES, NAMES), math.comb(99, 40))
        self.assertEqual(maps_along(FLAT_FORTY, 60, NAMES, NAMES[::-1]), math.comb(60, 40))
        self.assertEqual(maps_along(FLAT_FORTY, 39, NAMES, NAMES[::-1]), 0)
        self.assertEqual(maps_along(ONE, 1, ("a",), ("a",)), 1)


def line_case(many):
    return Case(many, no_numbers(1, 60), InvalidNumber, "value")


class WrongArgumentsTest(unittest.TestCase):
    def test_orders_and_lines(self):
        for call in (weak_chains, strict_chains, turn_numbers):
            check_cases(self, call, order_case(ZIG))
        for judge in (is_weak_map, is_strict_map):
            check_cases(self, judge, order_case(ZIG), line_case(3), free_case(None))
        for call in (weak_maps, strict_maps):
            for many in (1, 60):
                check_cases(
                    self, lambda order, value: list(itertools.islice(call(order, value), 3)), order_case(ZIG),
                    line_case(many))
        for call in (weak_number, strict_number):
            for number in (-60, 0, 60):
                check_cases(
                    self, call, order_case(ZIG), Case(number, no_numbers(-60, 60), InvalidNumber, "value"))

    def test_maps_and_line_ups(self):
        row = ("b", "a", "d", "c")
        lineup = lineup_case(ZIG, row)
        numbers = {"d": 2, "c": 3, "b": 2, "a": 1}
        strange = [{**numbers, "c": 1}, {**numbers, "d": 1}, {**numbers, "c": 4}, {**numbers, "a": 0}]
        told = Case(numbers, no_number_dicts(ZIG, 1, 3) + strange, InvalidOperation)
        check_cases(self, lots_of_map, order_case(ZIG), line_case(3), told)
        check_cases(self, lineup_of_map, order_case(ZIG), line_case(3), told, lineup)
        check_cases(self, maps_along, order_case(ZIG), line_case(3), lineup, lineup)
        check_cases(self, turns, order_case(ZIG), lineup, lineup)
        for bad in no_lineups(ONE):
            check_error(self, turns, [ONE, ("a",), bad], Case(None, [], InvalidLineup), bad)
        check_error(self, lots_of_map, [ONE, 2, {"a": 3}], Case(None, [], InvalidOperation), None)

    def test_rows_of_lots(self):
        good = ((), ("b",), ("a", "b", "c"), ("a", "b", "c", "d"))
        whole = good[-1]
        bad = odd_but(lambda value: False) + [
            list(good), good[:3], good[1:], good[::-1], ((),), (whole,), ((), ("c",), whole), ((), ("a",), ("b",), whole),
            ((), list(whole)), ([], whole), ((), whole, whole[:3]), ((), whole[:3], ("a",), whole), ((), None, whole),
            ((), whole, ()), ((),) * 61 + (whole,), ((), whole + ("zzz",)), ((), ("b", "a"), whole), (whole, whole),
            ((), ()), ((), (True,), whole)]
        check_cases(self, map_of_lots, order_case(ZIG), Case(good, bad, InvalidOperation))
        self.assertEqual(map_of_lots(ZIG, ((),) * 60 + (whole,)), {place: 60 for place in whole})
        for lots in ((), ((),), (("a",),), ((), ("a",), ()), ((),) * 61 + (("a",),)):
            with self.assertRaises(InvalidOperation):
                map_of_lots(ONE, lots)

    def test_too_many(self):
        for order in (BOOLEAN, JUST_4001, FORTY, FLAT_FORTY):
            for call in (weak_chains, strict_chains, turn_numbers):
                check_too_many(self, call, order)
            for call in (weak_number, strict_number):
                for number in (-60, 0, 60):
                    check_too_many(self, call, order, number)
                for bad in (61, -61, True, None, "1"):
                    check_error(self, call, [order, bad], Case(0, [], InvalidNumber, "value"), bad)

    def test_others_do_not_walk(self):
        for order in (SQUARE, CROWN, PAIRS, FLAT, BOOLEAN, FORTY):
            row = next(weak_maps(order, 2))
            self.assertEqual(set(row.values()), {1})
            self.assertEqual(lots_of_map(order, 1, row), ((), order.places))
            self.assertEqual(map_of_lots(order, ((), order.firsts, order.places)), {
                place: 1 if place in order.firsts else 2 for place in order} if len(order.firsts) < len(order) else row)


if __name__ == "__main__":
    unittest.main()
