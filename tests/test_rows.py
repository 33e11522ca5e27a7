"""Rows for two workers [0.20], [21.1] to [21.5]."""

import itertools
import random
import unittest

from downsets.base.orders import Order
from downsets.errors import InvalidOperation
from downsets.parts.stretches import laying_paper, stretch_rows
from downsets.wide.widths import height
from downsets.work.rows import (
    bar_number, fewest_rows, greatest_matching, idle, is_bar, is_matching, is_rows, is_rows_paper, lineup_along,
    rows_along, rows_of, rows_paper)
from tests.helper import (
    BOOLEAN, CHAIN_FORTY, CROWN, EXAMPLES, FLAT, FLAT_FORTY, FORTY, JUST_4001, LEVELS, NAMES, NO_ORDERS, ODD_VALUES,
    ONE, PAIRS, SEVEN, SQUARE, VEE, ZIG, Case, all_lots, all_orders, check_cases, check_judge, check_spoilt,
    five_orders, free_case, lineup_case, odd_but, order_case, same, slow_flat, slow_lineups, small_orders,
    spread_orders, with_pairs)

SMALL = small_orders()
SOME = SMALL + five_orders(7) + spread_orders()
LARGE = (BOOLEAN, FORTY, FLAT_FORTY, CHAIN_FORTY, LEVELS, JUST_4001)
LONE = Order(("a", "b", "c", "d"), (("c", "d"),))


def slow_rows(order, value):
    if not isinstance(value, tuple):
        return False
    lots = [lot for lot in all_lots(order.places) if len(lot) in (1, 2)]
    if not all(any(same(lot, other) for other in lots) for lot in value):
        return False
    if sorted(itertools.chain(*value)) != list(order.places):
        return False
    at = {place: k for k, lot in enumerate(value) for place in lot}
    return all(at[one] < at[other] for one, other in order.pairs)


def all_rows(order, done=()):
    """All rows of what is not done."""
    if len(done) == len(order):
        yield ()
    can = [place for place in order if place not in done and set(order.ahead(place)) <= set(done)]
    for lot in [(place,) for place in can] + list(itertools.combinations(can, 2)):
        for row in all_rows(order, done + lot):
            yield (lot,) + row


def slow_fewest(order):
    """Step by step from the lots that can be done in as many rows."""
    done, steps = {()}, 0
    while order.places not in done:
        more = set()
        for lot in done:
            can = [place for place in order if place not in lot and set(order.ahead(place)) <= set(lot)]
            for row in [(place,) for place in can] + list(itertools.combinations(can, 2)):
                more.add(tuple(sorted(lot + row)))
        done, steps = more, steps + 1
    return steps


def beside_pairs(order):
    return [pair for pair in itertools.combinations(order.places, 2) if slow_flat(order, pair)]


def slow_matching(order, value):
    if not isinstance(value, tuple) or not all(any(same(pair, duo) for duo in beside_pairs(order)) for pair in value):
        return False
    places = list(itertools.chain(*value))
    return list(value) == sorted(value) and len(set(places)) == len(places)


def most_pairs(order, left=None):
    """The greatest number of pairs of a matching."""
    left = order.places if left is None else left
    if not left:
        return 0
    first, rest = left[0], left[1:]
    found = [most_pairs(order, rest)]
    for other in rest:
        if slow_flat(order, (first, other)):
            found.append(1 + most_pairs(order, tuple(place for place in rest if place != other)))
    return max(found)


def slow_bar(order, value):
    lots = all_lots(order.places)[1:]
    if not isinstance(value, tuple) or not all(any(same(lot, other) for other in lots) for lot in value):
        return False
    return all((one, other) in order.pairs for lot, late in zip(value, value[1:]) for one in lot for other in late)


def all_bars(order):
    found, edge = [()], [()]
    while edge:
        edge = [bar + (lot,) for bar in edge for lot in all_lots(order.places)[1:]
            if slow_bar(order, bar[-1:] + (lot,))]
        found += edge
    return found


def number_of(bar):
    return sum(-(-len(lot) // 2) for lot in bar)


def slow_along(order, lineup):
    rows, done = [], set()
    while len(done) < len(lineup):
        row = [place for place in lineup if place not in done and set(order.ahead(place)) <= done][:2]
        rows.append(tuple(sorted(row)))
        done |= set(row)
    return tuple(rows)


def slow_paper(order, value):
    if not isinstance(value, tuple) or len(value) != 3 or value[0] != "rows":
        return False
    return slow_rows(order, value[1]) and slow_bar(order, value[2]) and len(value[1]) == number_of(value[2])


def random_orders(chance, many, most):
    """Orders with eight places or more."""
    for _ in range(many):
        names = NAMES[:chance.randint(8, most)]
        row = chance.sample(names, len(names))
        share = chance.random() / 2
        yield with_pairs(FLAT_FORTY.within(names), [
            pair for pair in itertools.combinations(row, 2) if chance.random() < share])


class RowsTest(unittest.TestCase):
    def test_fewest_rows(self):
        for order in SOME:
            fewest = slow_fewest(order)
            self.assertEqual(fewest_rows(order), fewest)
            rows = rows_of(order)
            self.assertTrue(slow_rows(order, rows))
            self.assertEqual(len(rows), fewest)
            self.assertEqual(fewest_rows(~order), fewest)
            self.assertEqual(fewest, len(order) - most_pairs(order))

    def test_all_orders_of_five_places(self):
        for order in all_orders(5):
            self.assertIs(is_rows_paper(order, rows_paper(order)), True)

    def test_all_rows(self):
        for order in small_orders(3) + SMALL[23::9]:
            found = list(all_rows(order))
            self.assertEqual(min(map(len, found)), fewest_rows(order))
            for rows in found:
                self.assertIs(is_rows(order, rows), True)
                told = lineup_along(order, rows)
                self.assertEqual(told, tuple(itertools.chain(*rows)))
                self.assertLessEqual(len(rows_along(order, told)), len(rows))
                self.assertEqual(idle(order, rows), sum(len(lot) == 1 for lot in rows))
                self.assertEqual(len(order), 2 * len(rows) - idle(order, rows))
            for other in small_orders(len(order))[-1::-5][:5]:
                for rows in found[:20]:
                    if other.places == order.places:
                        self.assertIs(is_rows(other, rows), slow_rows(other, rows))

    def test_rows_along_lineups(self):
        for order in SMALL[::2] + five_orders(401) + spread_orders()[2:5]:
            fewest = fewest_rows(order)
            numbers = set()
            for row in slow_lineups(order)[:300]:
                told = rows_along(order, row)
                self.assertEqual(told, slow_along(order, row))
                self.assertIs(is_rows(order, told), True)
                self.assertLessEqual(2 * len(told), 3 * fewest)
                numbers.add(len(told))
            self.assertEqual(len(rows_along(order, lineup_along(order, rows_of(order)))), fewest)
            self.assertGreaterEqual(min(numbers), fewest)

    def test_orders_behind_one_another(self):
        chance = random.Random(21)
        for _ in range(60):
            one, other = chance.choice(small_orders(3)), chance.choice(SMALL)
            other = other.renamed(dict(zip(other.places, "wxyz")))
            self.assertEqual(fewest_rows(one >> other), fewest_rows(one) + fewest_rows(other))

    def test_edges(self):
        self.assertEqual(rows_of(ONE), (("a",),))
        self.assertEqual(rows_of(Order.flat(("a", "b"))), (("a", "b"),))
        self.assertEqual(fewest_rows(FLAT), 2)
        self.assertEqual(fewest_rows(Order.flat(SEVEN)), 4)
        self.assertEqual(rows_of(Order.chain(("c", "a", "b"))), (("c",), ("a",), ("b",)))
        self.assertEqual((fewest_rows(FLAT_FORTY), fewest_rows(CHAIN_FORTY), fewest_rows(LEVELS)), (20, 40, 20))
        self.assertEqual(rows_along(CHAIN_FORTY, NAMES[::-1]), tuple((place,) for place in NAMES[::-1]))
        # [0.21]: neither half of the places nor a longest chain is always enough.
        three = FLAT >> Order.flat(("x", "y", "z"))
        self.assertEqual((fewest_rows(three), len(three) // 2, height(three)), (4, 3, 2))

    def test_stretches_for_two_workers(self):
        for order in SOME[::3]:
            if laying_paper(order)[0] == "laying":
                self.assertEqual(fewest_rows(order), len(stretch_rows(order, 2)))

    def test_spoilt_rows(self):
        for order in (ONE, VEE, LONE, SQUARE):
            check_spoilt(self, lambda value: is_rows(order, value), lambda value: slow_rows(order, value),
                rows_of(order))


class MatchingTest(unittest.TestCase):
    def test_greatest_matchings(self):
        for order in SOME + list(LARGE):
            told = greatest_matching(order)
            self.assertIs(is_matching(order, told), True)
            self.assertEqual(len(told), len(order) - fewest_rows(order))
            if len(order) < 8:
                self.assertTrue(slow_matching(order, told))
                self.assertEqual(len(told), most_pairs(order))

    def test_all_rows_of_pairs(self):
        for order in small_orders(3) + SMALL[23::8]:
            pairs = list(itertools.product(order.places, repeat=2))
            for many in range(3):
                for row in itertools.product(pairs, repeat=many):
                    self.assertIs(is_matching(order, row), slow_matching(order, row))

    def test_a_greatest_matching_need_not_be_rows(self):
        # [21.2]: each of both pairs must wait for the other one.
        self.assertIs(is_matching(PAIRS, (("a", "d"), ("b", "c"))), True)
        self.assertEqual(len(greatest_matching(PAIRS)), 2)
        for rows in itertools.permutations((("a", "d"), ("b", "c"))):
            self.assertIs(is_rows(PAIRS, rows), False)

    def test_spoilt_matchings(self):
        for order in (ONE, VEE, LONE, PAIRS, FLAT):
            check_spoilt(
                self, lambda value: is_matching(order, value), lambda value: slow_matching(order, value),
                greatest_matching(order))


class BarTest(unittest.TestCase):
    def test_all_bars(self):
        for order in SMALL[::2]:
            found = all_bars(order)
            self.assertEqual(max(map(number_of, found)), fewest_rows(order))
            for bar in found[:300]:
                self.assertIs(is_bar(order, bar), True)
                self.assertEqual(bar_number(order, bar), number_of(bar))
                for rows in itertools.islice(all_rows(order), 5):
                    for row in rows:
                        self.assertLessEqual(sum(1 for lot in bar if set(lot) & set(row)), 1)

    def test_all_rows_of_lots(self):
        for order in small_orders(3):
            for many in range(4):
                for row in itertools.product(all_lots(order.places), repeat=many):
                    self.assertIs(is_bar(order, row), slow_bar(order, row))

    def test_edges(self):
        for order in EXAMPLES + LARGE:
            self.assertIs(is_bar(order, ()), True)
            self.assertEqual(bar_number(order, ()), 0)
            self.assertEqual(bar_number(order, (order.places,)), (len(order) + 1) // 2)
        self.assertEqual(bar_number(CHAIN_FORTY, tuple((place,) for place in NAMES[::-1])), 40)

    def test_spoilt_bars(self):
        for order in (ONE, VEE, SQUARE, CROWN):
            check_spoilt(
                self, lambda value: is_bar(order, value), lambda value: slow_bar(order, value), rows_paper(order)[2])


class PaperTest(unittest.TestCase):
    def test_told_papers(self):
        for order in SOME:
            paper = rows_paper(order)
            self.assertTrue(slow_paper(order, paper), paper)
            self.assertIs(is_rows_paper(order, paper), True)

    def test_many_places(self):
        chance = random.Random(212)
        for order in list(LARGE) + list(random_orders(chance, 150, 30)):
            word, rows, bar = rows_paper(order)
            self.assertIs(is_rows_paper(order, (word, rows, bar)), True)
            self.assertEqual(len(rows), fewest_rows(order))
            self.assertEqual(bar_number(order, bar), len(rows))
            at = {place: k for k, lot in enumerate(rows) for place in lot}
            self.assertEqual(sorted(at), list(order.places))
            self.assertTrue(all(at[one] < at[other] for one, other in order.pairs))
            self.assertTrue(all(
                order.is_ahead(one, other) for lot, late in zip(bar, bar[1:]) for one in lot for other in late))
            self.assertEqual(len(rows_along(order, lineup_along(order, rows))), len(rows))

    def test_papers_of_others(self):
        for order in SMALL[::11]:
            bars = all_bars(order)[::3]
            for rows in list(all_rows(order))[::2]:
                for bar in bars[:40]:
                    value = ("rows", rows, bar)
                    self.assertIs(is_rows_paper(order, value), len(rows) == number_of(bar))

    def test_spoilt_papers(self):
        for order in (ONE, VEE, ZIG, LONE, SQUARE):
            check_spoilt(
                self, lambda value: is_rows_paper(order, value), lambda value: slow_paper(order, value),
                rows_paper(order))

    def test_judges_take_all_values(self):
        for order in EXAMPLES:
            paper = rows_paper(order)
            for judge in (is_rows, is_matching, is_bar, is_rows_paper):
                check_judge(self, lambda value: judge(order, value))
            for bad in ODD_VALUES:
                for k in range(3):
                    value = paper[:k] + (bad,) + paper[k + 1:]
                    self.assertIs(is_rows_paper(order, value), slow_paper(order, value))
                self.assertIs(is_rows(order, (bad,)), slow_rows(order, (bad,)))
                self.assertIs(is_matching(order, (bad,)), slow_matching(order, (bad,)))
                self.assertIs(is_matching(order, (("a", bad),)), slow_matching(order, (("a", bad),)))
                self.assertIs(is_bar(order, (bad,)), slow_bar(order, (bad,)))


class WrongArgumentsTest(unittest.TestCase):
    def test_orders_and_lineups(self):
        for order in (ONE, VEE):
            for call in (fewest_rows, rows_of, greatest_matching, rows_paper):
                check_cases(self, call, order_case(order))
            for call in (is_rows, is_matching, is_bar, is_rows_paper):
                check_cases(self, call, order_case(order), free_case(None))
            check_cases(self, rows_along, order_case(order), lineup_case(order, slow_lineups(order)[0]))
        self.assertEqual(len(NO_ORDERS), len(odd_but(lambda value: isinstance(value, Order))))

    def test_rows_and_bars(self):
        bad = odd_but(lambda value: slow_rows(LONE, value))
        bad += [[("a", "c"), ("b", "d")], (("a", "c"),), (("a", "c"), ("d", "b")), (("a", "b", "c"), ("d",)),
                (("d",), ("a", "c"), ("b",)), (("a", "c"), ("b", "d"), ()), (("a", "c"), ("b", "d"), ("a",)),
                (("a", "c"), ["b", "d"]), (("c", "d"), ("a", "b"))]
        rows = Case((("a", "c"), ("b", "d")), bad, InvalidOperation)
        check_cases(self, lineup_along, order_case(LONE), rows)
        check_cases(self, idle, order_case(LONE), rows)
        bad = odd_but(lambda value: slow_bar(LONE, value))
        bad += [(("a",), ("b",)), (("d",), ("c",)), (("c",), ()), (("c",), ("d",), ("d",)), [("c",), ("d",)],
            (("b", "a"),)]
        check_cases(self, bar_number, order_case(LONE), Case((("c",), ("d",)), bad, InvalidOperation))


if __name__ == "__main__":
    unittest.main()
