"""Orders of stretches [0.18], [14.1] to [14.4]."""

import itertools
import random
import unittest

from downsets.base.orders import Order
from downsets.errors import InvalidNumber, InvalidOperation, InvalidOrder
from downsets.lines.two import telling_number
from downsets.parts import stretches
from downsets.parts.stretches import (
    end_number, full_flat_lots, is_crew_rows, is_laying, is_laying_paper, is_stretch_rows, laying_paper, least_laying,
    order_of_stretches, stretch_rows)
from tests.helper import (
    BOOLEAN, CHAIN_FORTY, CROWN, EXAMPLES, FLAT, FLAT_FORTY, FORTY, LETTERS, NAMES, NO_ORDERS, ODD_VALUES, ONE, PAIRS,
    SEVEN, SQUARE, VEE, ZIG, Case, all_lots, check_cases, check_error, check_judge, check_spoilt, five_orders,
    free_case, no_numbers, odd_but, order_case, same, slow_flat, small_orders, spread_orders, with_pairs)

SMALL = small_orders()
END = 999999999999
# Each place is beside its neighbours and ahead of all later ones.
LINE_FORTY = with_pairs(FLAT_FORTY, list(zip(NAMES, NAMES[2:])) + list(zip(NAMES, NAMES[3:])))
SOME = SMALL + five_orders(13) + spread_orders()


def slow_stretch(value):
    return isinstance(value, tuple) and len(value) == 2 and all(
        type(number) is int and abs(number) <= END for number in value) and value[0] <= value[1]


def pairs_of(laying):
    return tuple(sorted(pair for pair in itertools.permutations(laying, 2) if laying[pair[0]][1] < laying[pair[1]][0]))


def slow_laying(order, value):
    if not isinstance(value, dict) or set(value) != set(order.places):
        return False
    return all(map(slow_stretch, value.values())) and pairs_of(value) == order.pairs


def slow_two(order, value):
    if not isinstance(value, tuple) or len(value) != 4:
        return False
    if not all(any(same(name, place) for place in order) for name in value):
        return False
    a, b, c, d = value
    pairs = order.pairs
    return (a, b) in pairs and (c, d) in pairs and (a, d) not in pairs and (c, b) not in pairs


def slow_paper(order, value):
    if not isinstance(value, tuple) or len(value) != 2:
        return False
    if value[0] == "laying":
        return slow_laying(order, value[1])
    return value[0] == "two" and slow_two(order, value[1])


BARRED = {}


def is_barred(order):
    key = (order.places, order.pairs)
    if key not in BARRED:
        BARRED[key] = any(slow_two(order, row) for row in itertools.permutations(order.places, 4))
    return BARRED[key]


def lots_ahead(order):
    return {frozenset(order.ahead(place)) for place in order}


def lots_behind(order):
    return {frozenset(order.behind(place)) for place in order}


def layings_within(order, top):
    """All layings with the numbers from 1 to a top one."""
    spans = [(k, j) for k in range(1, top + 1) for j in range(k, top + 1)]
    for row in itertools.product(spans, repeat=len(order)):
        laying = dict(zip(order.places, row))
        if pairs_of(laying) == order.pairs:
            yield laying


def slow_rows(order, many, value):
    if not isinstance(value, tuple) or not all(any(same(lot, other) for other in all_lots(order.places)[1:]) for lot in value):
        return False
    if sorted(itertools.chain(*value)) != list(order.places) or any(len(lot) > many for lot in value):
        return False
    at = {place: k for k, lot in enumerate(value) for place in lot}
    return all(at[one] < at[other] for one, other in order.pairs)


def slow_fewest(order, many):
    """The fewest rows for some workers, step by step from what is done."""
    done, steps = {()}, 0
    while order.places not in done:
        more = set()
        for lot in done:
            coming = [place for place in order if place not in lot and set(order.ahead(place)) <= set(lot)]
            for count in range(1, min(many, len(coming)) + 1):
                more |= {tuple(sorted(lot + row)) for row in itertools.combinations(coming, count)}
        done, steps = more, steps + 1
    return steps


def layings(chance):
    """Layings of one to seven places, some with numbers of twelve digits."""
    for _ in range(400):
        many = chance.randint(1, 7)
        names = chance.sample(LETTERS, many)
        top = chance.choice((3, 6, 20, END))
        ends = [sorted((chance.randint(-top, top), chance.randint(-top, top))) for _ in names]
        yield dict(zip(names, map(tuple, ends)))


class LayingTest(unittest.TestCase):
    def test_orders_of_layings(self):
        chance = random.Random(14)
        for laying in layings(chance):
            order = order_of_stretches(laying)
            self.assertIs(type(order), Order)
            self.assertEqual((order.places, order.pairs), (tuple(sorted(laying)), pairs_of(laying)))
            self.assertIs(is_laying(order, laying), True)
            self.assertIs(is_laying_paper(order, ("laying", laying)), True)
            self.assertFalse(is_barred(order))
            self.assertGreaterEqual(len({x for pair in laying.values() for x in pair}), end_number(order))

    def test_all_small_layings(self):
        for order in small_orders(3):
            for row in itertools.product([(k, j) for k in range(4) for j in range(4)], repeat=len(order)):
                value = dict(zip(order.places, row))
                self.assertIs(is_laying(order, value), slow_laying(order, value))
                turned = dict(zip(order.places[::-1], row[::-1]))
                self.assertIs(is_laying(order, turned), slow_laying(order, value))

    def test_long_numbers(self):
        for low, high in ((-END, END), (END, END), (-END, -END), (0, END)):
            self.assertIs(is_laying(ONE, {"a": (low, high)}), True)
            self.assertEqual(order_of_stretches({"a": (low, high)}).places, ("a",))
        for pair in ((-END - 1, 0), (0, END + 1), (END + 1, END + 1), (-10 ** 39, 10 ** 39), (1, 0)):
            self.assertIs(is_laying(ONE, {"a": pair}), False)
            with self.assertRaises(InvalidOperation):
                order_of_stretches({"a": pair})
        self.assertIs(is_laying(Order.chain(("b", "a")), {"b": (-END, END - 1), "a": (END, END)}), True)
        self.assertEqual(stretches.MAX_END, END)

    def test_spoilt_layings(self):
        for order in (ONE, VEE, ZIG, FLAT, SQUARE, CROWN):
            check_spoilt(
                self, lambda value: is_laying(order, value), lambda value: slow_laying(order, value),
                least_laying(order))
        for order in EXAMPLES:
            check_judge(self, lambda value: is_laying(order, value))
            for value in ODD_VALUES:
                told = {place: value for place in order}
                self.assertIs(is_laying(order, told), slow_laying(order, told))
                self.assertIs(is_laying(order, {**told, order.places[0]: (0, 1)}), slow_laying(
                    order, {**told, order.places[0]: (0, 1)}))


class PaperTest(unittest.TestCase):
    def test_told_papers(self):
        for order in SOME:
            paper = laying_paper(order)
            self.assertEqual(paper[0], "two" if is_barred(order) else "laying")
            self.assertTrue(slow_paper(order, paper), paper)
            self.assertIs(is_laying_paper(order, paper), True)

    def test_orders_of_stretches(self):
        for order in SOME:
            nested = all(one <= other or other <= one for one in lots_ahead(order) for other in lots_ahead(order))
            behind = all(one <= other or other <= one for one in lots_behind(order) for other in lots_behind(order))
            self.assertEqual((nested, behind), (not is_barred(order), not is_barred(order)))
            if nested:
                self.assertEqual(len(lots_ahead(order)), len(lots_behind(order)))

    def test_each_two_and_two(self):
        for order in SMALL[23::3] + [PAIRS, ZIG] + spread_orders()[4:5]:
            for row in itertools.product(order.places[:5], repeat=4):
                self.assertIs(is_laying_paper(order, ("two", row)), slow_two(order, row))
                if slow_two(order, row):
                    self.assertEqual(len(set(row)), 4)

    def test_spoilt_papers(self):
        for order in (ONE, VEE, PAIRS, ZIG, PAIRS + Order(("x",))):
            check_spoilt(
                self, lambda value: is_laying_paper(order, value), lambda value: slow_paper(order, value),
                laying_paper(order))
        for order in EXAMPLES:
            check_judge(self, lambda value: is_laying_paper(order, value))
            for word in ("laying", "two", None):
                check_judge(self, lambda value: is_laying_paper(order, (word, value)))
                check_judge(self, lambda value: is_laying_paper(order, (word, (value, value, value, value))))

    def test_many_places(self):
        for order, word in ((FLAT_FORTY, "laying"), (CHAIN_FORTY, "laying"), (LINE_FORTY, "laying"), (BOOLEAN, "two"),
                            (FORTY, "two")):
            paper = laying_paper(order)
            self.assertEqual(paper[0], word)
            self.assertIs(is_laying_paper(order, paper), True)

    def test_an_order_of_stretches_can_need_three_line_ups(self):
        laying = {"a": (1, 3), "b": (1, 2), "c": (1, 1), "d": (2, 4), "e": (2, 3), "f": (3, 4), "g": (4, 4)}
        self.assertEqual(telling_number(order_of_stretches(laying)), 3)


class LeastTest(unittest.TestCase):
    def test_against_words(self):
        for order in SOME:
            if is_barred(order):
                continue
            told = least_laying(order)
            self.assertTrue(slow_laying(order, told))
            self.assertEqual(list(told), list(order.places))
            self.assertEqual(end_number(order), len(lots_ahead(order)))
            for place in order:
                begin = sum(len(lot) <= len(order.ahead(place)) for lot in lots_ahead(order))
                end = sum(len(lot) >= len(order.behind(place)) for lot in lots_behind(order))
                self.assertEqual(told[place], (begin, end))
            numbers = {number for pair in told.values() for number in pair}
            self.assertEqual(numbers, set(range(1, end_number(order) + 1)))

    def test_just_one_laying_has_so_few_numbers(self):
        for order in small_orders(3) + SMALL[23::5]:
            if not is_barred(order):
                top = end_number(order)
                self.assertEqual(list(layings_within(order, top)), [least_laying(order)])
                self.assertEqual(list(layings_within(order, top - 1)), [])

    def test_full_flat_lots(self):
        for order in SOME:
            if is_barred(order):
                continue
            flats = [lot for lot in all_lots(order.places) if slow_flat(order, lot)]
            full = [lot for lot in flats if not any(set(lot) < set(other) for other in flats)]
            told = full_flat_lots(order)
            self.assertEqual(sorted(told), sorted(full))
            laying = least_laying(order)
            for k, lot in enumerate(told):
                self.assertEqual(lot, tuple(name for name in order if laying[name][0] <= k + 1 <= laying[name][1]))

    def test_many_places(self):
        self.assertEqual(full_flat_lots(FLAT_FORTY), (NAMES,))
        self.assertEqual(full_flat_lots(CHAIN_FORTY), tuple((name,) for name in NAMES[::-1]))
        self.assertEqual(full_flat_lots(LINE_FORTY), tuple(zip(NAMES, NAMES[1:])))
        self.assertEqual(least_laying(LINE_FORTY)[NAMES[7]], (7, 8))
        self.assertEqual((end_number(FLAT_FORTY), end_number(CHAIN_FORTY), end_number(LINE_FORTY)), (1, 40, 39))
        self.assertEqual((least_laying(ONE), end_number(ONE), full_flat_lots(ONE)), ({"a": (1, 1)}, 1, (("a",),)))


class RowsTest(unittest.TestCase):
    def test_fewest_rows(self):
        for order in SOME:
            if is_barred(order):
                continue
            for many in (1, 2, 3):
                rows = stretch_rows(order, many)
                self.assertTrue(slow_rows(order, many, rows), rows)
                self.assertEqual(len(rows), slow_fewest(order, many))
                self.assertIs(is_crew_rows(order, many, rows), True)
                self.assertIs(is_stretch_rows(order, many, rows), True)
                longer = rows[:-1] + tuple((place,) for place in rows[-1])
                self.assertIs(is_crew_rows(order, many, longer), True)
                self.assertIs(is_stretch_rows(order, many, longer), len(longer) == len(rows))

    def test_all_rows_of_small_orders(self):
        for order in small_orders(3):
            lots = all_lots(order.places)
            for count in range(4):
                for value in itertools.product(lots, repeat=count):
                    for many in (1, 2, 10 ** 11):
                        told = slow_rows(order, many, value)
                        self.assertIs(is_crew_rows(order, many, value), told)
                        if not is_barred(order):
                            self.assertIs(
                                is_stretch_rows(order, many, value), told and count == slow_fewest(order, min(many, 9)))

    def test_spoilt_rows(self):
        for order in (ONE, VEE, ZIG, FLAT):
            for many in (1, 2):
                rows = stretch_rows(order, many)
                check_spoilt(
                    self, lambda value: is_crew_rows(order, many, value), lambda value: slow_rows(order, many, value), rows)
                check_spoilt(
                    self, lambda value: is_stretch_rows(order, many, value),
                    lambda value: slow_rows(order, many, value) and len(value) == len(rows), rows)
        for order in EXAMPLES:
            check_judge(self, lambda value: is_crew_rows(order, 2, value))
        for order in (ONE, ZIG, FLAT):
            check_judge(self, lambda value: is_stretch_rows(order, 2, value))

    def test_many_places(self):
        for order, told in ((FLAT_FORTY, 14), (CHAIN_FORTY, 40), (LINE_FORTY, 20)):
            rows = stretch_rows(order, 3)
            self.assertEqual(len(rows), told)
            self.assertIs(is_stretch_rows(order, 3, rows), True)
        self.assertEqual(stretch_rows(FLAT_FORTY, 10 ** 39), (NAMES,))
        self.assertEqual(stretch_rows(ONE, 1), (("a",),))
        self.assertIs(is_crew_rows(BOOLEAN, 40, tuple((name,) for name in BOOLEAN)), False)


class WrongArgumentsTest(unittest.TestCase):
    def test_orders(self):
        for call in (laying_paper, least_laying, end_number, full_flat_lots):
            check_cases(self, call, order_case(ZIG))
        for judge in (is_laying, is_laying_paper):
            check_cases(self, judge, order_case(ZIG), free_case(None))
        workers = Case(2, no_numbers(1), InvalidNumber, "value")
        check_cases(self, stretch_rows, order_case(ZIG), workers)
        for judge in (is_crew_rows, is_stretch_rows):
            check_cases(self, judge, order_case(ZIG), workers, free_case(None))

    def test_no_orders_of_stretches(self):
        for order in (PAIRS, PAIRS >> Order(("x",)), BOOLEAN, FORTY):
            for call in (least_laying, end_number, full_flat_lots):
                check_error(self, call, [order], Case(None, [], InvalidOperation), None)
            check_error(self, stretch_rows, [order, 2], Case(None, [], InvalidOperation), None)
            for bad in no_numbers(1):
                check_error(self, stretch_rows, [order, bad], Case(None, [], InvalidNumber, "value"), bad)
                check_error(self, is_stretch_rows, [order, bad, ()], Case(None, [], InvalidNumber, "value"), bad)
            for value in ODD_VALUES + (tuple((place,) for place in order),):
                check_error(self, is_stretch_rows, [order, 1, value], Case(None, [], InvalidOperation), None)
        for bad in NO_ORDERS:
            check_error(self, is_stretch_rows, [bad, 0, ()], Case(None, [], InvalidOrder), bad)

    def test_layings(self):
        good = {"b": (1, 2), "a": (-3, 1)}
        bad = odd_but(lambda value: same(value, {"a": (1, 2)})) + [
            list(good.items()), {**good, "A": (1, 2)}, {**good, "": (1, 2)}, {**good, None: (1, 2)}, {**good, 1: (1, 2)},
            {**good, ("a",): (1, 2)}, {**good, "abcdefghi": (1, 2)}, {name: (1, 1) for name in SEVEN + ("h",)}]
        for value in (None, True, 1, (1,), (1, 2, 3), [1, 2], (2, 1), (True, 2), (0, True), (1, None), ("1", "2"), ((1, 2),),
                      (False, False), (1, END + 1), (-END - 1, 1), {1: 2}, ((), ()), ""):
            bad.append({**good, "a": value})
            bad.append({"a": value})
        check_cases(self, order_of_stretches, Case(good, bad, InvalidOperation))
        self.assertEqual(len(order_of_stretches({name: (1, 1) for name in SEVEN})), 7)


if __name__ == "__main__":
    unittest.main()
