"""Two line-ups, rings and tellings [0.18], [11.1] to [11.3]."""

import itertools
import random
import types
import unittest

from downsets.base.lots import closed_lots
from downsets.base.orders import Order
from downsets.back.lattices import lots_order
from downsets.errors import InvalidOperation, InvalidOrder, TooMany
from downsets.lines.two import (
    common_order, crossing, forced, is_telling, is_two_paper, telling, telling_number, three_lineups, two_number,
    two_paper, two_tellings)
from downsets.ways.lineups import lineups
from tests.helper import (
    BOOLEAN, CROWN, EXAMPLES, FLAT, FLAT_FORTY, FORTY, JUST_4001, LETTERS, NAMES, NO_ORDERS, ODD_VALUES, ONE, PAIRS,
    SEVEN, SQUARE, VEE, ZIG, Case, check_cases, check_error, check_judge, check_late, check_spoilt, check_too_many,
    five_orders, free_case, odd_but, order_case, place_case, same, slow_lineups, small_orders, spread_orders,
    with_pairs)

SMALL = small_orders()
THREES = Order(("a", "b", "c", "d", "e", "f"), (
    ("a", "e"), ("a", "f"), ("b", "d"), ("b", "f"), ("c", "d"), ("c", "e")))
# Orders of six and seven places that need three line-ups.
NEED_THREE = [
    THREES, ~THREES, THREES.renamed(dict(zip("abcdef", "fbdaec"))), THREES + Order(("x",)), THREES >> Order(("x",)),
    THREES.with_place("x").with_pair("x", "d"), THREES.with_place("x").with_pair("a", "x"),
    Order(SEVEN, (("a", "f"), ("b", "g"), ("c", "d"), ("c", "e"), ("e", "f"), ("e", "g"))),
    Order(SEVEN, (("a", "g"), ("b", "d"), ("b", "f"), ("c", "e"), ("c", "f"), ("f", "g"))),
    Order(SEVEN, (("a", "e"), ("b", "f"), ("c", "g"), ("d", "e"), ("d", "f"), ("d", "g"))),
    Order(SEVEN, (("a", "f"), ("b", "c"), ("b", "d"), ("c", "g"), ("d", "e"), ("d", "f"), ("f", "g")))]
SOME = SMALL + five_orders(29) + spread_orders()
EIGHT = [order for order in (BOOLEAN, FORTY, FLAT_FORTY, FLAT_FORTY.within(NAMES[:8]), JUST_4001)]
EIGHT_CHAIN = with_pairs(FLAT_FORTY.within(NAMES[:8]), zip(NAMES[1:8], NAMES))


def common(rows):
    """The pairs that stand in one order in all rows."""
    return tuple(sorted(
        pair for pair in itertools.permutations(rows[0], 2)
        if all(row.index(pair[0]) < row.index(pair[1]) for row in rows)))


def slow_telling(order, value):
    if not isinstance(value, tuple) or not 1 <= len(value) <= 10:
        return False
    rows = slow_lineups(order)
    return all(any(same(row, other) for other in rows) for row in value) and common(value) == order.pairs


TOLD = {}


def slow_number(order):
    """The least number of line-ups of a telling, by all tuples of one and two."""
    key = (order.places, order.pairs)
    if key not in TOLD:
        rows = [set(itertools.combinations(row, 2)) for row in slow_lineups(order)]
        pairs = set(order.pairs)
        is_two = any(one & other == pairs for one, other in itertools.combinations(rows, 2))
        TOLD[key] = 1 if len(rows) == 1 else 2 if is_two else 3
    return TOLD[key]


def slow_two(order):
    rows = slow_lineups(order)
    return [pair for pair in itertools.product(rows, repeat=2) if common(pair) == order.pairs]


def beside_pairs(order):
    return [pair for pair in itertools.permutations(order.places, 2)
            if pair not in order.pairs and pair[::-1] not in order.pairs]


FORCES = {}


def forces_of(order):
    """For each setting of an order the ones that it forces directly, by their words."""
    key = (order.places, order.pairs)
    if key not in FORCES:
        settings = set(beside_pairs(order))
        FORCES[key] = {(x, y): [
            (u, v) for u, v in sorted(settings)
            if u == x and v != y and (v, y) not in settings or v == y and u != x and (u, x) not in settings
        ] for x, y in settings}
    return FORCES[key]


def does_force(order, one, other):
    """Whether a setting forces another one directly."""
    return other in forces_of(order)[one]


def distances(order, start):
    """The least numbers of direct forcings from a setting, to all that it forces."""
    far = {}
    edge = [start]
    steps = 0
    while edge:
        far.update({one: steps for one in edge})
        edge = sorted({other for one in edge for other in forces_of(order)[one] if other not in far})
        steps += 1
    return far


def walk(order, start, many):
    """So many settings from one to the opposite one, each forced by the one ahead of it, or None."""
    rows = [{start: None}]
    while len(rows) < many:
        rows.append({other: one for one in rows[-1] for other in forces_of(order)[one]})
    ring = [start[::-1]]
    if ring[0] not in rows[-1]:
        return None
    for row in rows[:0:-1]:
        ring.append(row[ring[-1]])
    return tuple(ring[::-1])


def slow_forced(order, start):
    return tuple(sorted(distances(order, start)))


def slow_ring(order, value):
    if not isinstance(value, tuple) or not 2 <= len(value) <= 100:
        return False
    settings = forces_of(order)
    if not all(any(same(setting, pair) for pair in settings) for setting in value):
        return False
    return value[-1] == value[0][::-1] and all(does_force(order, one, other) for one, other in zip(value, value[1:]))


def slow_paper(order, value):
    if not isinstance(value, tuple) or len(value) != 2:
        return False
    if value[0] == "lineups":
        return slow_telling(order, value[1]) and len(value[1]) == 2
    return value[0] == "ring" and slow_ring(order, value[1])


class CommonTest(unittest.TestCase):
    def test_rows(self):
        chance = random.Random(11)
        for many in range(1, 8):
            names = list(LETTERS[:many])
            for count in (1, 2, 3, 10):
                rows = tuple(tuple(chance.sample(names, many)) for _ in range(count))
                found = common_order(rows)
                self.assertIs(type(found), Order)
                self.assertEqual((found.places, found.pairs), (tuple(names), common(rows)))
        self.assertEqual(common_order((("b",),)).places, ("b",))

    def test_no_rows(self):
        row = ("b", "a", "c")
        good = ((("a", "b"),), (("a", "b", "c"),))
        bad = odd_but(lambda value: any(same(value, rows) for rows in good)) + [
            (), ((),), ((), ()), (row,) * 11, [row], (list(row),), (row, row[:2]), (row, row + ("d",)), (row, ("a", "b", "d")),
            (row, ("a", "b", "b")), (("a", "A"),), (("a", 1),), (SEVEN + ("h",),), (row, None), (row, "abc"), (None, row),
            (("a", "a"),), (row, ("a", "b", True)), ((True,),), (("a", ["b"]),)]
        check_cases(self, common_order, Case((row, row[::-1]), bad, InvalidOperation))
        self.assertEqual(len(common_order((row,) * 10).pairs), 3)
        self.assertEqual(common_order((SEVEN,)), Order.chain(SEVEN))


class TellingTest(unittest.TestCase):
    def test_numbers(self):
        for order in SOME + NEED_THREE:
            number = telling_number(order)
            self.assertEqual(number, slow_number(order))
            self.assertEqual(number == 1, order.is_chain)
            self.assertEqual(telling_number(~order), number)
            found = telling(order)
            self.assertEqual(len(found), number)
            three = three_lineups(order)
            self.assertEqual(len(three), 3)
            for rows in (found, three):
                self.assertTrue(slow_telling(order, rows), rows)
                self.assertIs(is_telling(order, rows), True)
                self.assertEqual(common_order(rows), order)

    def test_orders_that_need_three(self):
        for order in NEED_THREE:
            self.assertEqual((telling_number(order), two_paper(order)[0], two_number(order)), (3, "ring", 0))
            for place in order:
                self.assertGreaterEqual(telling_number(order.without(place)), 2)

    def test_without_one_place(self):
        for order in SOME[::3] + NEED_THREE:
            for place in order if len(order) > 1 else ():
                self.assertGreaterEqual(telling_number(order.without(place)), telling_number(order) - 1)

    def test_all_pairs_of_line_ups(self):
        for order in SMALL[::3] + [FLAT, ZIG]:
            rows = slow_lineups(order)
            for many in (1, 2):
                for value in itertools.product(rows, repeat=many):
                    self.assertIs(is_telling(order, value), slow_telling(order, value))

    def test_lengths(self):
        for order in (ONE, VEE, FLAT, ZIG):
            rows = telling(order)
            for many in range(1, 12):
                value = (rows * 11)[:many]
                self.assertIs(is_telling(order, value), len(rows) <= many <= 10)
            self.assertIs(is_telling(order, ()), False)
            self.assertIs(is_telling(order, list(rows)), False)

    def test_spoilt_tellings(self):
        for order in (ONE, VEE, ZIG, THREES):
            for value in (telling(order), three_lineups(order)):
                check_spoilt(
                    self, lambda told: is_telling(order, told), lambda told: slow_telling(order, told), value)
        for order in EXAMPLES:
            check_judge(self, lambda value: is_telling(order, value))
            check_judge(self, lambda value: is_telling(order, (value, value)))


class ForcedTest(unittest.TestCase):
    def test_against_slow_ones(self):
        for order in SMALL + five_orders(61) + spread_orders() + NEED_THREE[:1]:
            for pair in beside_pairs(order):
                self.assertEqual(forced(order, *pair), slow_forced(order, pair))

    def test_reason(self):
        for order in SMALL + NEED_THREE[:1]:
            for first, _ in slow_two(order)[:20]:
                for pair, others in forces_of(order).items():
                    for other in others:
                        self.assertEqual(first.index(pair[0]) < first.index(pair[1]),
                                         first.index(other[0]) < first.index(other[1]))

    def test_edges(self):
        self.assertEqual(forced(FLAT, "c", "a"), (("c", "a"),))
        self.assertEqual(len(forced(THREES, "a", "d")), 18)
        self.assertEqual(forced(CROWN, "a", "b"), (("a", "b"),))


class PaperTest(unittest.TestCase):
    def test_told_papers(self):
        for order in SOME[::2] + NEED_THREE:
            paper = two_paper(order)
            self.assertTrue(slow_paper(order, paper), paper)
            self.assertIs(is_two_paper(order, paper), True)
            self.assertEqual(paper[0], "ring" if slow_number(order) == 3 else "lineups")
            rings = [pair for pair in beside_pairs(order) if pair[::-1] in slow_forced(order, pair)]
            self.assertEqual(bool(rings), paper[0] == "ring")

    def test_papers_made_by_hand(self):
        for order in SMALL[::2] + [ZIG, FLAT]:
            for pair in itertools.product(slow_lineups(order), repeat=2):
                self.assertIs(is_two_paper(order, ("lineups", pair)), slow_telling(order, pair))
            for row in slow_lineups(order):
                self.assertIs(is_two_paper(order, ("lineups", (row,))), False)
                self.assertIs(is_two_paper(order, ("lineups", (row, row))), order.is_chain)

    def test_rings_made_by_hand(self):
        chance = random.Random(7)
        for order in NEED_THREE:
            checked = 0
            for setting in beside_pairs(order):
                # Forcing goes back, too, so that this leads from each setting to the opposite one.
                far = distances(order, setting[::-1])
                if setting not in far:
                    continue
                for _ in range(4):
                    ring = [setting]
                    while ring[-1] != setting[::-1]:
                        steps = forces_of(order)[ring[-1]]
                        nearer = [other for other in steps if far[other] < far[ring[-1]]]
                        ring.append(chance.choice(steps if chance.random() < 0.3 else nearer))
                    at = chance.randrange(len(ring))
                    other = chance.choice(beside_pairs(order))
                    self.assertTrue(slow_ring(order, tuple(ring)) or len(ring) > 100)
                    for row in (ring, ring[:-1], ring[1:], ring[::-1], ring[:at] + ring[at + 1:], ring[:at] + ring[at:at + 1]
                                + ring[at:], ring[:at] + [other] + ring[at + 1:], ring[:at] + [setting[:1] * 2] + ring[at + 1:]):
                        told = slow_ring(order, tuple(row))
                        checked += told
                        self.assertIs(is_two_paper(order, ("ring", tuple(row))), told)
            self.assertGreater(checked, 100)

    def test_lengths_of_rings(self):
        ring = two_paper(THREES)[1]
        there_and_back = ring[:2] * 49
        for many in (0, 40, 44, 46, 47, 48, 49):
            value = there_and_back[:2 * many] + ring
            self.assertIs(slow_ring(THREES, value), len(value) <= 100)
            self.assertIs(is_two_paper(THREES, ("ring", value)), len(value) <= 100)
        self.assertEqual(len(there_and_back[:92] + ring) % 2, len(ring) % 2)
        for value in ((), ring[:1], (("a", "b"), ("b", "a")), (("a", "b"),)):
            self.assertIs(is_two_paper(THREES, ("ring", value)), False)
        for order in SMALL:
            for pair in beside_pairs(order):
                self.assertIs(is_two_paper(order, ("ring", (pair, pair[::-1]))), False)

    def test_rings_of_a_hundred_settings(self):
        for order in NEED_THREE:
            start = two_paper(order)[1][0]
            told = {many: walk(order, start, many) for many in (98, 99, 100, 101, 102)}
            for many, ring in told.items():
                if ring is not None:
                    self.assertEqual((len(ring), slow_ring(order, ring)), (many, many <= 100))
                    self.assertIs(is_two_paper(order, ("ring", ring)), many <= 100)
            self.assertTrue(told[99] or told[100])
        self.assertTrue(any(walk(order, two_paper(order)[1][0], 100) for order in NEED_THREE))

    def test_spoilt_papers(self):
        for order in (ONE, VEE, ZIG, FLAT, THREES, Order.chain(("b", "a"))):
            check_spoilt(
                self, lambda value: is_two_paper(order, value), lambda value: slow_paper(order, value),
                two_paper(order))

    def test_judge_takes_all_values(self):
        for order in EXAMPLES + (THREES,):
            check_judge(self, lambda value: is_two_paper(order, value))
            for word in ("lineups", "ring", None):
                check_judge(self, lambda value: is_two_paper(order, (word, value)))
                check_judge(self, lambda value: is_two_paper(order, (word, (value, value))))


class TwoTest(unittest.TestCase):
    def test_all_tellings_of_two(self):
        for order in SMALL + five_orders(97):
            told = slow_two(order)
            self.assertEqual(list(two_tellings(order)), told)
            self.assertEqual(two_number(order), len(told))
            self.assertTrue(len(told) == 1 if order.is_chain else len(told) % 2 == 0)

    def test_more_places(self):
        for order in spread_orders() + five_orders(53) + NEED_THREE:
            found = list(two_tellings(order))
            self.assertEqual(found, sorted(set(found)))
            self.assertTrue(all(is_telling(order, pair) for pair in found))
            seconds = {pair[0]: pair[1] for pair in found}
            for row in slow_lineups(order):
                turned = sorted(order.places, key=lambda x: sum(
                    (y, x) in order.pairs or ((x, y) not in order.pairs and row.index(x) < row.index(y)) for y in order))
                told = common((row, tuple(turned))) == order.pairs
                self.assertEqual(row in seconds, told)
            self.assertEqual(two_number(order), len(found))

    def test_kinds_and_edges(self):
        found = two_tellings(VEE)
        self.assertIsInstance(found, types.GeneratorType)
        self.assertEqual(list(two_tellings(ONE)), [(("a",), ("a",))])
        chain = Order.chain(SEVEN[::-1])
        self.assertEqual(list(two_tellings(chain)), [(SEVEN[::-1], SEVEN[::-1])])
        self.assertEqual(two_number(Order.flat(SEVEN)), 5040)
        self.assertEqual(next(two_tellings(Order.flat(SEVEN))), (SEVEN, SEVEN[::-1]))
        self.assertEqual(list(two_tellings(THREES)), [])
        for bad in NO_ORDERS:
            check_late(self, two_tellings, [bad], InvalidOrder)
        for order in EIGHT:
            check_late(self, two_tellings, [order], TooMany)

    def test_crossing(self):
        for order in SMALL + spread_orders()[-3:]:
            for pair in list(two_tellings(order))[:20]:
                made = crossing(order, pair)
                first, second = pair
                self.assertEqual(made.places, order.places)
                self.assertEqual(made.pairs, tuple(sorted(
                    (x, y) for x, y in beside_pairs(order) if first.index(x) < first.index(y))))
                turned = (first, second[::-1])
                self.assertIs(is_telling(made, turned), True)
                self.assertTrue(crossing(made, turned) == order)
        self.assertTrue(crossing(Order.chain(("b", "a")), (("b", "a"), ("b", "a"))) == Order.flat(("a", "b")))

    def test_lattices_of_closed_lots(self):
        for order in SMALL[:23:3]:
            lots = closed_lots(order)
            if len(lots) <= 7:
                lattice = lots_order(order, SEVEN[:len(lots)])
                self.assertLessEqual(telling_number(lattice), 2)


class WrongArgumentsTest(unittest.TestCase):
    def test_orders(self):
        for call in (telling_number, telling, three_lineups, two_paper, two_number):
            check_cases(self, call, order_case(VEE))
        for judge in (is_telling, is_two_paper):
            check_cases(self, judge, order_case(VEE), free_case(None))

    def test_settings(self):
        check_cases(self, forced, order_case(ZIG), place_case(ZIG, "a"), place_case(ZIG, "d"))
        for pair in (("a", "a"), ("d", "d"), ("a", "c"), ("c", "a"), ("d", "b")):
            with self.assertRaises(InvalidOperation):
                forced(ZIG, *pair)
        one, other = EIGHT_CHAIN.places[:2]
        for call in (lambda: forced(EIGHT_CHAIN, one, other), lambda: forced(EIGHT_CHAIN, one, one)):
            with self.assertRaises(InvalidOperation):
                call()

    def test_crossing(self):
        good = (("a", "b", "c", "d"), ("b", "d", "a", "c"))
        rows = slow_lineups(ZIG)
        bad = odd_but(lambda value: False) + [
            list(good), good[:1], good + good[1:], (good[0], good[0]), (rows[0], rows[1]), (good[0], list(good[1])),
            (good[0], good[1][:3]), (good[0], None)]
        check_cases(self, crossing, order_case(ZIG), Case(good, bad, InvalidOperation))
        check_error(self, crossing, [THREES, telling(THREES)], Case(None, [], InvalidOperation), None)

    def test_too_many(self):
        for order in EIGHT + [EIGHT_CHAIN]:
            for call in (telling_number, telling, three_lineups, two_paper, two_number):
                check_too_many(self, call, order, limit=7)
            for value in ODD_VALUES + (("lineups", (order.places, order.places)),):
                check_too_many(self, is_telling, order, value, limit=7)
                check_too_many(self, is_two_paper, order, value, limit=7)
            for bad in ODD_VALUES:
                check_error(self, crossing, [order, bad], Case(None, [], InvalidOperation), bad)
        flat = EIGHT[3]
        one, other = flat.places[:2]
        check_too_many(self, forced, flat, one, other, limit=7)
        with self.assertRaises(KeyError):
            forced(flat, one, "zzz")
        check_too_many(self, crossing, flat, (flat.places, flat.places[::-1]), limit=7)
        check_too_many(self, crossing, EIGHT_CHAIN, (NAMES[7::-1], NAMES[7::-1]), limit=7)
        for bad in ((flat.places, flat.places), (flat.places,)):
            check_error(self, crossing, [flat, bad], Case(None, [], InvalidOperation), bad)
        with self.assertRaises(InvalidOperation):
            crossing(FORTY, (next(lineups(FORTY)),) * 2)

    def test_seven_places(self):
        flat = Order.flat(SEVEN)
        self.assertEqual((telling_number(flat), len(three_lineups(flat))), (2, 3))
        for order in (SQUARE, PAIRS, flat, Order.chain(SEVEN)):
            self.assertIs(is_two_paper(order, two_paper(order)), True)


if __name__ == "__main__":
    unittest.main()
