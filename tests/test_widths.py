"""Width and height [0.17], [8.1] to [8.3]."""

import itertools
import types
import unittest
from collections import Counter

from downsets.base.lots import closed_lots, firsts, is_chain, is_flat, next_places, tops
from downsets.base.orders import Order
from downsets.errors import InvalidLot, InvalidOperation, InvalidOrder
from downsets.wide.widths import (
    greatest_flats, height, height_paper, highest_flat, is_height_paper, is_width_paper, level, levels,
    longest_chains, lower_flat, lowest_flat, upper_flat, width, width_paper)
from tests.helper import (
    BOOLEAN, CHAIN_FORTY, CROWN, EXAMPLES, FLAT, FLAT_FORTY, FORTY, JUST_4000, JUST_4001, LEVELS, NAMES, NO_ORDERS,
    ODD_VALUES, ONE, PAIRS, SEVEN, SQUARE, VEE, ZIG, Case, all_lots, check_cases, check_error, check_judge,
    check_late, check_spoilt, check_too_many, five_orders, free_case, lot_case, no_lots, order_case, place_case, same,
    slow_chain, slow_flat, small_orders, spread_orders)

SMALL = small_orders()
SOME = SMALL + five_orders(9) + spread_orders()


def slow_lots(order, is_good):
    return [lot for lot in all_lots(order.places) if is_good(order, lot)]


def partings(places):
    """All ways to part some places, each as an ascending tuple of lots."""
    if not places:
        return [()]
    first, others = places[0], places[1:]
    found = []
    for many in range(len(others) + 1):
        for chosen in itertools.combinations(others, many):
            left = tuple(place for place in others if place not in chosen)
            found += [tuple(sorted(((first,) + chosen,) + parts)) for parts in partings(left)]
    return found


def slow_fewest(order, is_good):
    """The least number of lots of a kind such that each place is in just one."""
    return min(len(parts) for parts in partings(order.places) if all(is_good(order, lot) for lot in parts))


def slow_greatest(order, is_good):
    return max(len(lot) for lot in slow_lots(order, is_good))


def slow_paper(order, value, is_lot, is_part):
    """Judge a width paper or a height paper by its words."""
    if not isinstance(value, tuple) or len(value) != 2 or not isinstance(value[1], tuple):
        return False
    lot, parts = value
    lots = all_lots(order.places)
    if not any(same(lot, other) for other in lots) or not is_lot(order, lot):
        return False
    if not all(any(same(part, other) for other in lots) and part and is_part(order, part) for part in parts):
        return False
    if list(parts) != sorted(set(parts)) or len(parts) != len(lot):
        return False
    return sorted(itertools.chain(*parts)) == list(order.places)


def slow_width_paper(order, value):
    return slow_paper(order, value, slow_flat, slow_chain)


def slow_height_paper(order, value):
    return slow_paper(order, value, slow_chain, slow_flat)


def slow_level(order, place):
    chains = [lot for lot in slow_lots(order, slow_chain) if place in lot]
    return max(len(lot) for lot in chains if not any((place, other) in order.pairs for other in lot))


def slow_longest(order):
    chains = slow_lots(order, slow_chain)
    return [lot for lot in chains if len(lot) == max(len(other) for other in chains)]


def slow_flats(order):
    flats = slow_lots(order, slow_flat)
    return tuple(lot for lot in flats if len(lot) == max(len(other) for other in flats))


def together(order, lot, second, at):
    """The places of two lots that have none of both ahead of them (0), or behind them (1)."""
    both = set(lot) | set(second)
    return tuple(sorted(x for x in both if not any(pair[at] in both and pair[1 - at] == x for pair in order.pairs)))


class NumberTest(unittest.TestCase):
    def test_against_slow_ones(self):
        for order in SOME:
            self.assertEqual(width(order), slow_greatest(order, slow_flat))
            self.assertEqual(height(order), slow_greatest(order, slow_chain))
            self.assertEqual(len(levels(order)), height(order))
            self.assertIs(type(width(order)), int)

    def test_fewest_parts(self):
        for order in SMALL + five_orders(41) + spread_orders()[4:]:
            self.assertEqual(width(order), slow_fewest(order, slow_chain))
            self.assertEqual(height(order), slow_fewest(order, slow_flat))

    def test_edges(self):
        self.assertEqual((width(ONE), height(ONE)), (1, 1))
        for many in range(1, 8):
            flat, chain = Order.flat(SEVEN[:many]), Order.chain(SEVEN[:many][::-1])
            self.assertEqual((width(flat), height(flat), width(chain), height(chain)), (many, 1, 1, many))
        self.assertEqual((width(FLAT_FORTY), height(FLAT_FORTY)), (40, 1))
        self.assertEqual((width(CHAIN_FORTY), height(CHAIN_FORTY)), (1, 40))
        self.assertEqual((width(BOOLEAN), height(BOOLEAN)), (10, 6))
        self.assertEqual((width(LEVELS), height(LEVELS)), (2, 20))
        self.assertEqual((width(JUST_4000), height(JUST_4000)), (8, 4))

    def test_tops_and_next_places(self):
        for order in SOME:
            closed = closed_lots(order)
            self.assertEqual(width(order), max(len(tops(order, lot)) for lot in closed))
            self.assertEqual(width(order), max(len(next_places(order, lot)) for lot in closed))

    def test_within_and_together(self):
        for order in SOME[::4]:
            for lot in all_lots(order.places)[1::3]:
                self.assertLessEqual(width(order.within(lot)), width(order))
                self.assertLessEqual(height(order.within(lot)), height(order))
        for one in small_orders(3):
            for other in small_orders(3):
                other = other.renamed({place: "x" + place for place in other})
                self.assertEqual(width(one + other), width(one) + width(other))
                self.assertEqual(height(one + other), max(height(one), height(other)))
                self.assertEqual(height(one >> other), height(one) + height(other))
                self.assertEqual(width(one >> other), max(width(one), width(other)))

    def test_turned(self):
        for order in SOME[::3]:
            self.assertEqual((width(~order), height(~order)), (width(order), height(order)))


class PaperTest(unittest.TestCase):
    def test_told_papers(self):
        for order in SOME:
            paper = width_paper(order)
            self.assertTrue(slow_width_paper(order, paper), paper)
            self.assertIs(is_width_paper(order, paper), True)
            self.assertEqual(len(paper[0]), width(order))
            paper = height_paper(order)
            self.assertTrue(slow_height_paper(order, paper), paper)
            self.assertIs(is_height_paper(order, paper), True)
            self.assertEqual(len(paper[0]), height(order))

    def test_papers_made_by_hand(self):
        for order in small_orders(3) + SMALL[23::10] + [ZIG, SQUARE, CROWN, PAIRS]:
            for lot in all_lots(order.places):
                for parts in partings(order.places):
                    for value in ((lot, parts), (lot, parts[::-1]), (lot, parts + ((),)), (lot, ((),) + parts)):
                        self.assertIs(is_width_paper(order, value), slow_width_paper(order, value))
                        self.assertIs(is_height_paper(order, value), slow_height_paper(order, value))

    def test_spoilt_papers(self):
        for order in (ONE, VEE, ZIG, FLAT, SQUARE, Order.chain(("c", "a", "b"))):
            check_spoilt(
                self, lambda value: is_width_paper(order, value), lambda value: slow_width_paper(order, value),
                width_paper(order))
            check_spoilt(
                self, lambda value: is_height_paper(order, value), lambda value: slow_height_paper(order, value),
                height_paper(order))

    def test_judges_take_all_values(self):
        for order in EXAMPLES:
            for judge in (is_width_paper, is_height_paper):
                check_judge(self, lambda value: judge(order, value))
                for value in ODD_VALUES:
                    self.assertIs(judge(order, (value, (order.places,))), (
                        slow_width_paper if judge is is_width_paper else slow_height_paper)(
                            order, (value, (order.places,))))
                    self.assertIs(judge(order, (order.places[:1], value)), (
                        slow_width_paper if judge is is_width_paper else slow_height_paper)(
                            order, (order.places[:1], value)))

    def test_many_places(self):
        for order in (BOOLEAN, FORTY, FLAT_FORTY, LEVELS, CHAIN_FORTY, JUST_4001, ~BOOLEAN):
            for call, judge in ((width_paper, is_width_paper), (height_paper, is_height_paper)):
                lot, parts = call(order)
                self.assertIs(judge(order, (lot, parts)), True)
                self.assertIs(judge(order, (lot, parts[::-1])), len(parts) == 1)
                self.assertIs(judge(order, (lot[:-1], parts)), False)
                self.assertEqual(sorted(itertools.chain(*parts)), list(order.places))
                self.assertEqual(len(lot), len(parts))
            self.assertTrue(all(is_chain(order, part) for part in width_paper(order)[1]))
            self.assertTrue(all(is_flat(order, part) for part in height_paper(order)[1]))


class LevelTest(unittest.TestCase):
    def test_levels(self):
        for order in SOME:
            found = levels(order)
            self.assertIs(type(found), tuple)
            for k, lot in enumerate(found):
                self.assertTrue(slow_flat(order, lot))
                for place in lot:
                    self.assertEqual(level(order, place), k + 1)
            self.assertEqual(sorted(itertools.chain(*found)), list(order.places))
        for order in SMALL + spread_orders()[4:]:
            for place in order:
                self.assertEqual(level(order, place), slow_level(order, place))

    def test_longest_chains(self):
        for order in SOME:
            self.assertEqual(list(longest_chains(order)), slow_longest(order))
        self.assertEqual(list(longest_chains(ONE)), [("a",)])
        self.assertEqual(list(longest_chains(FLAT_FORTY)), [(name,) for name in NAMES])
        self.assertEqual(list(longest_chains(CHAIN_FORTY)), [NAMES])
        self.assertEqual(len(list(longest_chains(BOOLEAN))), 120)
        self.assertEqual(len(list(longest_chains(JUST_4000))), 3)

    def test_chains_by_names_and_not_by_levels(self):
        # The least place of the longest chain is not its first one.
        order = Order(SEVEN, (("g", "a"), ("a", "c"), ("f", "b"), ("b", "c"), ("d", "e")))
        self.assertEqual(list(longest_chains(order)), [("a", "c", "g"), ("b", "c", "f")])
        # A pair of places on longest chains is not always on one of them.
        order = Order(("a", "b", "c", "d", "e", "f"), (("a", "b"), ("b", "c"), ("d", "e"), ("e", "f"), ("a", "f")))
        self.assertEqual(list(longest_chains(order)), [("a", "b", "c"), ("d", "e", "f")])

    def test_chains_are_found_when_they_are_requested(self):
        found = longest_chains(LEVELS)
        self.assertIsInstance(found, types.GeneratorType)
        self.assertEqual(next(found), NAMES[0:40:2])
        self.assertEqual(next(found), NAMES[0:38:2] + NAMES[39:])
        self.assertEqual(next(found), NAMES[0:36:2] + (NAMES[37], NAMES[38]))

    def test_a_generator_raises_at_its_first_element(self):
        for bad in NO_ORDERS:
            check_late(self, longest_chains, [bad], InvalidOrder)


class GreatestFlatTest(unittest.TestCase):
    def test_greatest_flats(self):
        for order in SOME:
            flats = slow_flats(order)
            self.assertEqual(greatest_flats(order), flats)
            low, high = lowest_flat(order), highest_flat(order)
            self.assertTrue(all(together(order, low, lot, 0) == low for lot in flats) and low in flats)
            self.assertTrue(all(together(order, high, lot, 1) == high for lot in flats) and high in flats)

    def test_lower_and_upper(self):
        for order in SMALL + five_orders(61) + spread_orders():
            flats = slow_flats(order)[:12]
            for lot, second in itertools.product(flats, repeat=2):
                low, high = lower_flat(order, lot, second), upper_flat(order, lot, second)
                self.assertEqual(low, together(order, lot, second, 0))
                self.assertEqual(high, together(order, lot, second, 1))
                self.assertIn(low, slow_flats(order))
                self.assertIn(high, slow_flats(order))
                self.assertEqual(Counter(low + high), Counter(lot + second))

    def test_edges(self):
        self.assertEqual(greatest_flats(ONE), (("a",),))
        self.assertEqual(greatest_flats(FLAT), (("a", "b", "c"),))
        self.assertEqual(lowest_flat(CHAIN_FORTY), NAMES[39:])
        self.assertEqual(highest_flat(CHAIN_FORTY), NAMES[:1])
        self.assertEqual(len(greatest_flats(LEVELS)), 20)
        self.assertEqual((lowest_flat(LEVELS), highest_flat(LEVELS)), (NAMES[:2], NAMES[38:]))
        self.assertEqual(len(greatest_flats(JUST_4000)), 64)
        self.assertEqual(lowest_flat(JUST_4000), NAMES[:5] + (NAMES[5], NAMES[9], NAMES[13]))
        self.assertEqual(highest_flat(JUST_4000), NAMES[:5] + (NAMES[8], NAMES[12], NAMES[16]))

    def test_many_places_without_a_walk(self):
        ranks = {place: len(BOOLEAN.ahead(place)) for place in BOOLEAN}
        two, three = [tuple(place for place in BOOLEAN if ranks[place] == many) for many in (3, 7)]
        self.assertEqual((len(two), len(three)), (10, 10))
        self.assertEqual(lower_flat(BOOLEAN, three, two), two)
        self.assertEqual(upper_flat(BOOLEAN, two, three), three)
        self.assertEqual(lower_flat(BOOLEAN, two, two), two)
        self.assertEqual(firsts(BOOLEAN, tuple(sorted(two + three))), two)
        for lots in ((two, two[:-1]), (two[1:], three), ((), two), (BOOLEAN.places, two)):
            with self.assertRaises(InvalidOperation):
                lower_flat(BOOLEAN, *lots)


class WrongArgumentsTest(unittest.TestCase):
    def test_orders_and_places(self):
        calls = (width, height, width_paper, height_paper, levels, greatest_flats, lowest_flat, highest_flat,
                 lambda order: list(longest_chains(order)))
        for call in calls:
            check_cases(self, call, order_case(ZIG))
        for judge in (is_width_paper, is_height_paper):
            check_cases(self, judge, order_case(VEE), free_case(None))
        check_cases(self, level, order_case(VEE), place_case(VEE, "b"))
        check_cases(self, level, order_case(ONE), place_case(ONE, "a"))

    def test_two_lots(self):
        for call in (lower_flat, upper_flat):
            check_cases(
                self, call, order_case(ZIG), lot_case(ZIG, ("a", "b")), lot_case(ZIG, ("c", "d")))
            check_cases(self, call, order_case(ONE), lot_case(ONE, ("a",)), lot_case(ONE, ("a",)))
            flats = slow_flats(ZIG)
            others = [lot for lot in all_lots(ZIG.places) if lot not in flats]
            for bad in others:
                check_error(self, call, [ZIG, bad, ("a", "b")], Case(None, [], InvalidOperation), bad)
                check_error(self, call, [ZIG, ("a", "b"), bad], Case(None, [], InvalidOperation), bad)
            for bad in no_lots(ZIG):
                check_error(self, call, [ZIG, ("a",), bad], Case(None, [], InvalidLot), bad)
                check_error(self, call, [ZIG, bad, ("a",)], Case(None, [], InvalidLot), bad)

    def test_too_many(self):
        for order in (BOOLEAN, JUST_4001, FORTY, FLAT_FORTY):
            for call in (greatest_flats, lowest_flat, highest_flat):
                check_too_many(self, call, order)
            self.assertTrue(all([width(order), height(order), levels(order), width_paper(order), height_paper(order)]))
            self.assertTrue(next(longest_chains(order)))


if __name__ == "__main__":
    unittest.main()
