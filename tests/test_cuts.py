"""Cuts and filled orders [0.19], [15.1] to [15.4]."""

import itertools
import random
import unittest

from downsets.back.cuts import (
    cut_number, cut_of, cuts, filled, gaps, is_cut, is_filled, is_laid_into, join_cut, laid_into, lowers, meet_cut,
    uppers)
from downsets.back.lattices import is_lattice, join, lots_order, meet
from downsets.base.lots import closed_lots, is_closed
from downsets.base.orders import Order
from downsets.errors import InvalidLot, InvalidOperation, InvalidOrder, UnknownPlace
from downsets.lines.two import telling_number
from tests.helper import (
    BOOLEAN, CHAIN_FORTY, CROWN, EXAMPLES, FLAT, FLAT_FORTY, FORTY, NAMES, NO_ORDERS, ODD_VALUES, ONE, PAIRS, PENT,
    SEVEN, SQUARE, VEE, ZIG, Case, all_lots, check_cases, check_error, check_judge, check_spoilt, check_too_many,
    five_orders, free_case, lot_case, names_for, no_lots, no_places, odd_but, order_case, place_case, same,
    small_orders, spread_orders, with_pairs)

SMALL = small_orders()
SOME = SMALL + five_orders(29) + spread_orders()
FEW = SMALL[::5] + [ZIG, VEE, SQUARE, CROWN, PAIRS, FLAT, ONE]


def opposed(many):
    """Places below and as many above, each ahead of all above but one: cuts for each lot of those below."""
    low, high = NAMES[:many], NAMES[20:20 + many]
    return with_pairs(FLAT_FORTY.within(low + high), [
        (low[k], high[j]) for k in range(many) for j in range(many) if k != j])


def wide_order():
    """An order of 33 places with just 4,000 cuts.

    Twelve places are below. Those ahead of one of the places above are a lot
    that has the sixth place if it has the first five, and the eighth if it has
    the first to the fourth, the sixth and the seventh. Such lots are all but
    2 ** 6 + 2 ** 5 of 2 ** 12, and the common part of two is such a lot. Of one
    place above ahead of another one, the lot is within that of the other one.
    """
    def is_good(lot):
        return (5 in lot or not {0, 1, 2, 3, 4} <= lot) and (7 in lot or not {0, 1, 2, 3, 5, 6} <= lot)

    lots = [frozenset(k for k in range(12) if bits >> k & 1) for bits in range(2 ** 12)]
    lots = [lot for lot in lots if is_good(lot)]
    whole = frozenset(range(12))
    single = [lot for lot in lots if lot != whole and frozenset.intersection(
        whole, *[other for other in lots if lot < other]) != lot]
    assert (len(lots), len(single)) == (4000, 21)
    pairs = [(NAMES[k], NAMES[12 + at]) for at, lot in enumerate(single) for k in lot]
    pairs += [(NAMES[12 + k], NAMES[12 + at]) for k, at in itertools.permutations(range(21), 2) if single[k] < single[at]]
    return with_pairs(FLAT_FORTY.within(NAMES[:33]), pairs)


def slow_bound(order, lot, at):
    """The uppers (1) or the lowers (0) of a lot."""
    return tuple(x for x in order if all(x == y or ((y, x) if at else (x, y)) in order.pairs for y in lot))


CUTS = {}


def slow_cuts(order):
    key = (order.places, order.pairs)
    if key not in CUTS:
        found = []
        for lot in all_lots(order.places):
            upper = slow_bound(order, lot, 1)
            if slow_bound(order, upper, 0) == lot:
                found.append((lot, upper))
        CUTS[key] = sorted(found)
    return CUTS[key]


def own_cut(order, place):
    return (slow_bound(order, (place,), 0), slow_bound(order, (place,), 1))


def slow_lies(order, lattice, names):
    """Whether a dict leads from just the places to different ones that stand alike."""
    if not isinstance(names, dict) or set(names) != set(order.places):
        return False
    if not all(any(same(name, place) for place in lattice) for name in names.values()):
        return False
    if len(set(names.values())) < len(names):
        return False
    return all(((x, y) in order.pairs) == ((names[x], names[y]) in lattice.pairs)
               for x, y in itertools.permutations(order.places, 2))


def joined(lattice, places):
    """The join of places of a lattice order, the lowest place for none."""
    found = [x for x in lattice if all(x == y or (y, x) in lattice.pairs for y in places)]
    return [x for x in found if all(x == y or (x, y) in lattice.pairs for y in found)][0]


def slow_filled(order, value):
    if not isinstance(value, tuple) or len(value) != 2 or not isinstance(value[0], Order):
        return False
    lattice, names = value
    if not is_lattice(lattice) or not slow_lies(order, lattice, names):
        return False
    told = list(names.values())
    return all(
        joined(lattice, [x for x in told if x == z or (x, z) in lattice.pairs]) == z
        and joined(~lattice, [x for x in told if x == z or (z, x) in lattice.pairs]) == z for z in lattice)


def slow_laid(order, lattice, names, value):
    found = slow_cuts(order)
    if not isinstance(value, dict) or set(value) != set(found):
        return False
    if not all(any(same(name, place) for place in lattice) for name in value.values()):
        return False
    if len(set(value.values())) < len(value) or any(value[own_cut(order, place)] != names[place] for place in order):
        return False
    return all((set(one[0]) < set(other[0])) == ((value[one], value[other]) in lattice.pairs)
               for one, other in itertools.permutations(found, 2))


def lattices():
    """Lattice orders in which small orders lie in several ways."""
    return [SQUARE, PENT, Order.chain(("c", "a", "b")), lots_order(FLAT, names_for(8)), lots_order(VEE, names_for(5)),
            lots_order(Order.flat(("a", "b")) + Order.chain(("c", "d")), names_for(12))]


def ways_into(order, lattice):
    """All dicts by which an order lies in a lattice order."""
    for row in itertools.permutations(lattice.places, len(order)):
        names = dict(zip(order.places, row))
        if slow_lies(order, lattice, names):
            yield names


class BoundTest(unittest.TestCase):
    def test_uppers_and_lowers(self):
        for order in SOME:
            for lot in all_lots(order.places):
                self.assertEqual(uppers(order, lot), slow_bound(order, lot, 1))
                self.assertEqual(lowers(order, lot), slow_bound(order, lot, 0))
        for order in EXAMPLES + (BOOLEAN, FORTY, FLAT_FORTY):
            self.assertEqual((uppers(order, ()), lowers(order, ())), (order.places, order.places))
        self.assertEqual(uppers(FLAT_FORTY, NAMES[:2]), ())
        self.assertEqual(lowers(CHAIN_FORTY, NAMES[:2]), NAMES[1:])


class CutTest(unittest.TestCase):
    def test_cuts(self):
        for order in SOME:
            found = slow_cuts(order)
            self.assertEqual(cuts(order), tuple(found))
            self.assertEqual(cut_number(order), len(found))
            own = [own_cut(order, place) for place in order]
            self.assertEqual(gaps(order), tuple(cut for cut in found if cut not in own))
            for place in order:
                self.assertEqual(cut_of(order, place), own_cut(order, place))

    def test_joins_and_meets(self):
        for order in SOME:
            for lot in all_lots(order.places):
                upper, lower = slow_bound(order, lot, 1), slow_bound(order, lot, 0)
                self.assertEqual(join_cut(order, lot), (slow_bound(order, upper, 0), upper))
                self.assertEqual(meet_cut(order, lot), (lower, slow_bound(order, lower, 1)))
                self.assertIn(join_cut(order, lot), slow_cuts(order))
                self.assertIn(meet_cut(order, lot), slow_cuts(order))

    def test_judge(self):
        for order in small_orders(3) + SMALL[23::20]:
            lots = all_lots(order.places)
            for value in itertools.product(lots, repeat=2):
                self.assertIs(is_cut(order, value), value in slow_cuts(order))
        for order in EXAMPLES:
            check_judge(self, lambda value: is_cut(order, value))
            check_judge(self, lambda value: is_cut(order, (value, value)))
            for cut in slow_cuts(order)[:3]:
                check_spoilt(
                    self, lambda value: is_cut(order, value),
                    lambda value: any(same(value, other) for other in slow_cuts(order)), cut)
        self.assertIs(is_cut(ONE, (("a",), ("a",))), True)
        self.assertIs(is_cut(ONE, ((), ("a",))), False)

    def test_gaps_and_lattices(self):
        for order in SOME:
            self.assertEqual(gaps(order) == (), is_lattice(order))
            self.assertEqual(cuts(~order), tuple(sorted((upper, lower) for lower, upper in cuts(order))))
            self.assertTrue(all(is_closed(order, lower) for lower, _ in cuts(order)))
            self.assertLessEqual(cut_number(order), len(closed_lots(order)))

    def test_many_places(self):
        self.assertEqual((cut_number(FLAT_FORTY), cut_number(CHAIN_FORTY)), (42, 40))
        self.assertEqual((cut_number(FORTY), gaps(FORTY), gaps(BOOLEAN)), (40, (), ()))
        self.assertEqual(cuts(FLAT_FORTY)[0], ((), NAMES))
        self.assertEqual(len(gaps(FLAT_FORTY)), 2)
        self.assertEqual((cut_number(opposed(4)), len(gaps(opposed(4)))), (16, 8))
        self.assertEqual(cut_number(opposed(11)), 2048)


class FilledTest(unittest.TestCase):
    def test_told_ones(self):
        for order in SOME:
            lattice, names = filled(order)
            self.assertTrue(slow_filled(order, (lattice, names)))
            self.assertIs(is_filled(order, (lattice, names)), True)
            self.assertEqual(list(names), list(order.places))
            self.assertEqual(len(lattice), cut_number(order))
            for place in lattice:
                if len(lattice.down(place)) == 1 or len(lattice.up(place)) == 1:
                    self.assertIn(place, names.values())

    def test_joins_and_meets_stay(self):
        for order in SOME[::2]:
            lattice, names = filled(order)
            for one, other in itertools.combinations(order.places, 2):
                if join(order, one, other) is not None:
                    self.assertEqual(join(lattice, names[one], names[other]), names[join(order, one, other)])
                if meet(order, one, other) is not None:
                    self.assertEqual(meet(lattice, names[one], names[other]), names[meet(order, one, other)])

    def test_same_as_the_cuts(self):
        for order in SOME[::2]:
            lattice, names = filled(order)
            told = laid_into(order, lattice, names)
            self.assertEqual(sorted(told.values()), list(lattice.places))
            for one, other in itertools.permutations(cuts(order), 2):
                self.assertEqual(set(one[0]) < set(other[0]), (told[one], told[other]) in lattice.pairs)

    def test_joins_and_meets_of_cuts(self):
        for order in FEW:
            lattice, names = filled(order)
            told = laid_into(order, lattice, names)
            for lot in all_lots(order.places):
                self.assertEqual(told[join_cut(order, lot)], joined(lattice, [names[place] for place in lot]))
                self.assertEqual(told[meet_cut(order, lot)], joined(~lattice, [names[place] for place in lot]))

    def test_made_by_hand(self):
        for order in small_orders(3) + [ZIG, PAIRS]:
            for lattice in lattices() + [filled(order)[0], filled(order)[0] >> Order(("zz",))]:
                for row in itertools.islice(itertools.permutations(lattice.places, len(order)), 250):
                    value = (lattice, dict(zip(order.places, row)))
                    self.assertIs(is_filled(order, value), slow_filled(order, value))

    def test_other_names(self):
        chance = random.Random(15)
        for order in SOME[::3]:
            lattice, names = filled(order)
            row = list(names_for(40))
            chance.shuffle(row)
            other = dict(zip(lattice.places, row))
            made = lattice.renamed(other)
            told = {place: other[names[place]] for place in reversed(order.places)}
            self.assertIs(is_filled(order, (made, told)), True)
            self.assertIs(is_filled(order, (made, names)), set(names.values()) <= set(made.places))

    def test_spoilt_ones(self):
        for order in (ONE, VEE, ZIG, FLAT, SQUARE):
            check_spoilt(
                self, lambda value: is_filled(order, value), lambda value: slow_filled(order, value), filled(order))
        for order in EXAMPLES:
            check_judge(self, lambda value: is_filled(order, value))
            for value in ODD_VALUES:
                self.assertIs(is_filled(order, (filled(order)[0], value)), slow_filled(order, (filled(order)[0], value)))
                self.assertIs(is_filled(order, (value, {place: place for place in order})), slow_filled(
                    order, (value, {place: place for place in order})))

    def test_equally_many_line_ups(self):
        for order in SOME:
            lattice = filled(order)[0] if cut_number(order) <= 7 else None
            if lattice is not None:
                self.assertEqual(telling_number(lattice), telling_number(order))

    def test_many_places(self):
        for order in (BOOLEAN, FORTY, CHAIN_FORTY, FLAT_FORTY.within(NAMES[:38]), opposed(5)):
            value = filled(order)
            self.assertIs(is_filled(order, value), True)
            self.assertEqual(len(value[0]), cut_number(order))
            told = laid_into(order, *value)
            self.assertIs(is_laid_into(order, *value, told), True)
        taken = FLAT_FORTY.within(NAMES[:38]).renamed(dict(zip(NAMES[:38], reversed(names_for(38)))))
        self.assertIs(is_filled(taken, filled(taken)), True)


class LaidTest(unittest.TestCase):
    def test_told_ones(self):
        checked = 0
        for order in small_orders(3) + [ZIG, VEE, PAIRS, CROWN]:
            for lattice in lattices():
                for names in itertools.islice(ways_into(order, lattice), 12):
                    told = laid_into(order, lattice, names)
                    self.assertTrue(slow_laid(order, lattice, names, told))
                    self.assertIs(is_laid_into(order, lattice, names, told), True)
                    self.assertEqual(list(told), list(cuts(order)))
                    for (lower, _), place in told.items():
                        self.assertEqual(joined(lattice, [names[x] for x in lower]), place)
                    self.assertLessEqual(cut_number(order), len(lattice))
                    turned = {place: names[place] for place in reversed(order.places)}
                    self.assertEqual(laid_into(order, lattice, turned), told)
                    checked += 1
        self.assertGreater(checked, 100)

    def test_all_dicts(self):
        lattice = lots_order(FLAT, names_for(8))
        for order in (VEE, Order.flat(("a", "b")), Order(("a", "b", "c"), (("a", "c"),))):
            for names in itertools.islice(ways_into(order, lattice), 2):
                found = cuts(order)
                good = 0
                for row in itertools.product(lattice.places, repeat=len(found)) if len(found) < 5 else ():
                    value = dict(zip(found, row))
                    told = slow_laid(order, lattice, names, value)
                    good += told
                    self.assertIs(is_laid_into(order, lattice, names, value), told)
                self.assertTrue(good or len(found) > 4)

    def test_several_dicts_can_be_right(self):
        lattice = lots_order(Order.flat(("a", "b")) + Order.chain(("c", "d")), names_for(12))
        order = Order.flat(("a", "b"))
        names = [names for names in ways_into(order, lattice)][0]
        tops = [x for x in lattice if all((names[y], x) in lattice.pairs for y in order)]
        lows = [x for x in lattice if all((x, names[y]) in lattice.pairs for y in order)]
        for low, top in itertools.product(lows, tops):
            value = {((), ("a", "b")): low, (("a", "b"), ()): top, (("a",), ("a",)): names["a"], (("b",), ("b",)): names["b"]}
            self.assertIs(is_laid_into(order, lattice, names, value), True)
        self.assertGreater(len(lows) * len(tops), 1)

    def test_spoilt_ones(self):
        for order, lattice in ((ONE, ONE), (VEE, SQUARE), (ZIG, lots_order(FLAT, names_for(8)))):
            for names in itertools.islice(ways_into(order, lattice), 2):
                check_spoilt(
                    self, lambda value: is_laid_into(order, lattice, names, value),
                    lambda value: slow_laid(order, lattice, names, value), laid_into(order, lattice, names))
                check_judge(self, lambda value: is_laid_into(order, lattice, names, value))


class WrongArgumentsTest(unittest.TestCase):
    def test_lots_and_places(self):
        for order in (ZIG, ONE):
            for call in (uppers, lowers, join_cut, meet_cut):
                check_cases(self, call, order_case(order), lot_case(order, ("a",)))
                check_error(self, call, [order, list(order.places)], Case(None, [], InvalidLot), None)
            check_cases(self, cut_of, order_case(order), place_case(order, "a"))
        for call in (cuts, cut_number, gaps, filled):
            check_cases(self, call, order_case(ZIG))
        for judge in (is_cut, is_filled):
            check_cases(self, judge, order_case(ZIG), free_case(None))
        for bad in no_places(BOOLEAN)[:20]:
            check_error(self, cut_of, [BOOLEAN, bad], Case("", [], UnknownPlace, "place"), bad)
        for bad in no_lots(VEE):
            check_error(self, meet_cut, [VEE, bad], Case("", [], InvalidLot), bad)

    def test_lying(self):
        names = {"a": "a", "b": "c", "c": "b"}
        no_lattices = NO_ORDERS + [VEE, ZIG, CROWN, FLAT, PAIRS, ~VEE, FLAT_FORTY]
        no_names = odd_but(lambda value: False) + [
            {"a": "a", "b": "b"}, {**names, "d": "d"}, {**names, "b": "b"}, {**names, "b": "d"}, {**names, "a": "d"},
            {**names, "a": "zzz"}, {**names, "a": None}, {**names, "a": True}, {**names, "b": ["c"]}, {**names, "a": "b"},
            {"a": "a", "b": "c", "zzz": "b"}, list(names.items()), {"b": "a", "a": "b", "c": "c"}, {**names, None: "d"}]
        cases = [order_case(VEE), Case(SQUARE, no_lattices, InvalidOrder), Case(names, no_names, InvalidOperation)]
        check_cases(self, laid_into, *cases)
        check_cases(self, is_laid_into, *cases, free_case(None))
        # Places beside one another do not become places that are ahead, nor the other way round.
        for order, bad in ((Order.flat(("a", "b")), {"a": "a", "b": "b"}), (Order.chain(("a", "b")), {"a": "b", "b": "c"}),
                           (Order.chain(("a", "b")), {"a": "b", "b": "a"})):
            with self.assertRaises(InvalidOperation):
                laid_into(order, SQUARE, bad)

    def test_too_many_cuts(self):
        barred = opposed(12)
        for call in (cuts, cut_number, gaps, filled):
            check_too_many(self, call, barred)
            check_error(self, call, [None], Case(None, [], InvalidOrder), None)
        self.assertEqual(join_cut(barred, ()), ((), barred.places))
        self.assertIs(is_cut(barred, ((), barred.places)), True)
        self.assertIs(is_filled(barred, (SQUARE, {})), False)
        for call in (laid_into, lambda *told: is_laid_into(*told, {})):
            check_error(self, call, [barred, SQUARE, {}], Case(None, [], InvalidOperation), None)

    def test_just_so_many_cuts(self):
        order = wide_order()
        self.assertEqual((cut_number(order), len(cuts(order)), len(gaps(order))), (4000, 4000, 3967))
        check_too_many(self, filled, order, limit=40)
        more = with_pairs(FLAT_FORTY.within(NAMES[:34]), order.pairs)
        for call in (cuts, cut_number, gaps, filled):
            check_too_many(self, call, more)

    def test_more_than_forty_cuts(self):
        self.assertEqual(len(filled(FLAT_FORTY.within(NAMES[:38]))[0]), 40)
        for order in (FLAT_FORTY.within(NAMES[:39]), FLAT_FORTY, opposed(6), opposed(11)):
            check_too_many(self, filled, order, limit=40)
        self.assertEqual(len(filled(Order.flat(SEVEN))[0]), 9)


if __name__ == "__main__":
    unittest.main()
