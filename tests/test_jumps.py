"""Jumps and deadlines [0.20], [20.1] to [20.4]."""

import itertools
import random
import unittest

from downsets.base.orders import Order
from downsets.errors import InvalidNumber, InvalidOperation, InvalidOrder
from downsets.heavy.jumps import (
    due_by, greedy_lineups, is_greedy, is_in_time, is_jump_paper, is_time_paper, is_zigzag, jump_lineup, jump_number,
    jump_paper, jumps, time_paper, zigzag)
from downsets.parts.along import along
from downsets.ways.lineups import is_lineup
from downsets.wide.widths import width
from tests.helper import (
    BOOLEAN, CHAIN_FORTY, CROWN, EXAMPLES, FLAT, FLAT_FORTY, FORTY, JUST_4000, JUST_4001, LEVELS, NAMES, NO_ORDERS,
    ODD_VALUES, ONE, PAIRS, SEVEN, VEE, ZIG, Case, check_cases, check_error, check_judge, check_late, check_spoilt,
    check_too_many, five_orders, free_case, is_key, lineup_case, no_indices, order_case, same, slow_closed,
    slow_closed_lots, slow_flat, slow_lineups, small_orders, spread_orders, weights_case, with_pairs)

SMALL = small_orders()
SOME = SMALL + five_orders(61) + spread_orders()[2:5]
TIMES = 1000000


def chains_beside(*sizes):
    """Chains with so many places, beside one another."""
    order = FLAT_FORTY.within(NAMES[:sum(sizes)])
    start = 0
    for size in sizes:
        row = NAMES[start:start + size]
        order = with_pairs(order, zip(row, row[1:]))
        start += size
    return order


# 1,200 closed lots with just 4,000 tops, and one place more that is ahead of all.
TOPS_4000 = chains_beside(1, 1, 1, 9, 14)
TOPS_4001 = with_pairs(
    FLAT_FORTY.within(NAMES[:27]), TOPS_4000.steps + tuple((NAMES[26], place) for place in NAMES[:26]))


def slow_jumps(order, lineup):
    return tuple(
        k + 1 for k, (one, other) in enumerate(zip(lineup, lineup[1:]))
        if (one, other) not in order.pairs and (other, one) not in order.pairs)


def slow_fewest(order):
    return min(len(slow_jumps(order, row)) for row in slow_lineups(order))


def slow_duos(order):
    return [
        (lot, top) for lot in slow_closed_lots(order) for top in lot
        if not any((top, place) in order.pairs for place in lot)]


def slow_jump_paper(order, value):
    """By the words of [20.2]."""
    if not isinstance(value, tuple) or len(value) != 3 or value[0] != "table" or not isinstance(value[2], dict):
        return False
    _, lineup, values = value
    if not any(same(lineup, row) for row in slow_lineups(order)) or set(values) != set(slow_duos(order)):
        return False
    if not all(type(number) is int for number in values.values()):
        return False
    for (less, x), (more, y) in itertools.product(values, repeat=2):
        if y not in less and set(more) == set(less) | {y}:
            if values[(more, y)] > values[(less, x)] + slow_flat(order, (x, y)):
                return False
    if any(values[(lot, top)] > 0 for lot, top in values if len(lot) == 1):
        return False
    most = len(slow_jumps(order, lineup))
    return all(values[(lot, top)] >= most for lot, top in values if lot == order.places)


def slow_greedy(order, lineup):
    for k in range(1, len(lineup)):
        come = set(lineup[:k])
        can = [
            place for place in order.behind(lineup[k - 1])
            if place not in come and all(name in come for name in order.ahead(place))]
        if can and lineup[k] not in order.behind(lineup[k - 1]):
            return False
    return True


def slow_zigzag(order, value):
    if not isinstance(value, tuple) or len(value) != 4:
        return False
    if not all(any(same(place, name) for name in order) for place in value):
        return False
    a, b, c, d = value
    return (a, c) in order.steps and (b, c) in order.steps and (b, d) in order.steps and (a, d) not in order.pairs


def slow_in_time(lengths, deadlines, lineup):
    end = 0
    for place in lineup:
        end += lengths[place]
        if end > deadlines[place]:
            return False
    return True


def slow_due(order, deadlines, time):
    due = {place for place in order if deadlines[place] <= time}
    return tuple(place for place in order if place in due or any((place, late) in order.pairs for late in due))


def slow_time_paper(order, lengths, deadlines, value):
    if not isinstance(value, tuple) or not value:
        return False
    if value[0] == "lineup" and len(value) == 2:
        return any(same(value[1], row) for row in slow_lineups(order)) and slow_in_time(lengths, deadlines, value[1])
    if value[0] != "late" or len(value) != 3:
        return False
    _, time, lot = value
    if type(time) is not int or not 1 <= time <= TIMES or not same(lot, slow_due(order, deadlines, time)):
        return False
    return sum(lengths[place] for place in lot) > time


def times_for(order, chance):
    """Some lengths and deadlines, about half of them with a line-up in time."""
    for longest, latest in ((1, len(order) + 1), (3, 2 * len(order) + 2), (1000, 500 * len(order) + 500)):
        yield ({place: chance.randint(1, longest) for place in order},
               {place: chance.randint(1, latest) for place in order})
    yield {place: 1 for place in order}, {place: len(order) for place in order}


class JumpsTest(unittest.TestCase):
    def test_jumps(self):
        for order in SMALL + five_orders(301):
            for row in slow_lineups(order):
                self.assertEqual(jumps(order, row), slow_jumps(order, row))
        self.assertEqual(jumps(ONE, ("a",)), ())
        self.assertEqual(jumps(FLAT, ("c", "a", "b")), (1, 2))
        self.assertEqual(jumps(CHAIN_FORTY, NAMES[::-1]), ())
        self.assertEqual(jumps(FLAT_FORTY, NAMES), tuple(range(1, 40)))

    def test_fewest_jumps(self):
        for order in SOME:
            fewest = slow_fewest(order)
            self.assertEqual(jump_number(order), fewest)
            row = jump_lineup(order)
            self.assertTrue(is_lineup(order, row))
            self.assertEqual(len(slow_jumps(order, row)), fewest)
            self.assertGreaterEqual(fewest, width(order) - 1)
        self.assertEqual(jump_number(ONE), 0)
        self.assertEqual(jump_number(CROWN), 2)

    def test_fewest_jumps_need_not_be_the_width_less_1(self):
        # [0.21]
        self.assertEqual((jump_number(CROWN), width(CROWN)), (2, 2))

    def test_orders_beside_and_behind_one_another(self):
        chance = random.Random(20)
        for _ in range(60):
            one = chance.choice(small_orders(3))
            other = chance.choice(SMALL)
            other = other.renamed(dict(zip(other.places, "wxyz")))
            self.assertEqual(jump_number(one + other), jump_number(one) + jump_number(other) + 1)
            self.assertEqual(jump_number(one >> other), jump_number(one) + jump_number(other))
        for order in SOME[::7]:
            for lot, fewest in along(order, "jumps").items():
                self.assertIn(fewest, (None, jump_number(order.within(lot))))

    def test_many_places(self):
        for order, fewest in ((TOPS_4000, 4), (CHAIN_FORTY, 0), (LEVELS, 20), (chains_beside(3, 4, 5), 2)):
            paper = jump_paper(order)
            self.assertEqual(jump_number(order), fewest)
            self.assertEqual(len(jumps(order, jump_lineup(order))), fewest)
            self.assertEqual(len(jumps(order, paper[1])), fewest)
            self.assertIs(is_jump_paper(order, paper), True)
        self.assertEqual(len(jump_paper(TOPS_4000)[2]), 4000)


class JumpPaperTest(unittest.TestCase):
    def test_told_papers(self):
        for order in SOME:
            paper = jump_paper(order)
            self.assertIs(is_jump_paper(order, paper), True)
            self.assertEqual(list(paper[2]), sorted(slow_duos(order)))
            self.assertEqual(len(slow_jumps(order, paper[1])), slow_fewest(order))
            if len(order) < 6:
                self.assertTrue(slow_jump_paper(order, paper))

    def test_papers_of_others(self):
        for order in SMALL[::3]:
            _, row, values = jump_paper(order)
            for other in slow_lineups(order)[:5]:
                value = ("table", other, dict(reversed(values.items())))
                self.assertIs(is_jump_paper(order, value), slow_jump_paper(order, value))
            for key in values:
                for step in (-2, -1, 1, 7):
                    value = ("table", row, {**values, key: values[key] + step})
                    self.assertIs(is_jump_paper(order, value), slow_jump_paper(order, value))

    def test_all_small_tables(self):
        for order in small_orders(2) + [VEE, Order.chain(("c", "a", "b"))]:
            duos = slow_duos(order)
            found = 0
            for row in itertools.product((-1, 0, 1, 2), repeat=len(duos)):
                value = ("table", slow_lineups(order)[-1], dict(zip(duos, row)))
                good = slow_jump_paper(order, value)
                found += good
                self.assertIs(is_jump_paper(order, value), good)
            self.assertGreater(found, 0)

    def test_spoilt_papers(self):
        for order in (ONE, VEE, Order.chain(("b", "a")), PAIRS):
            check_spoilt(
                self, lambda value: is_jump_paper(order, value), lambda value: slow_jump_paper(order, value),
                jump_paper(order))

    def test_judge_takes_all_values(self):
        for order in EXAMPLES:
            paper = jump_paper(order)
            check_judge(self, lambda value: is_jump_paper(order, value))
            check_judge(self, lambda value: is_zigzag(order, value))
            for bad in ODD_VALUES:
                for k in range(3):
                    value = paper[:k] + (bad,) + paper[k + 1:]
                    self.assertIs(is_jump_paper(order, value), slow_jump_paper(order, value))
                value = ("table", paper[1], {**paper[2], next(iter(paper[2])): bad})
                self.assertIs(is_jump_paper(order, value), slow_jump_paper(order, value))
                if is_key(bad):
                    self.assertIs(is_jump_paper(order, paper[:2] + ({**paper[2], bad: 0},)), False)


class GreedyTest(unittest.TestCase):
    def test_greedy_lineups(self):
        for order in SOME:
            found = [row for row in slow_lineups(order) if slow_greedy(order, row)]
            self.assertEqual(list(greedy_lineups(order)), found)
            for row in slow_lineups(order)[:200]:
                self.assertIs(is_greedy(order, row), slow_greedy(order, row))
            self.assertIn(slow_fewest(order), [len(slow_jumps(order, row)) for row in found])
            if zigzag(order) is None:
                self.assertEqual({len(slow_jumps(order, row)) for row in found}, {slow_fewest(order)})

    def test_found_when_requested(self):
        for order in (FLAT_FORTY, FORTY, BOOLEAN, JUST_4001, LEVELS):
            told = list(itertools.islice(greedy_lineups(order), 50))
            self.assertEqual(told, sorted(told))
            for row in told[:5]:
                self.assertTrue(slow_greedy(order, row) and is_lineup(order, row))
                self.assertIs(is_greedy(order, row), True)
        self.assertEqual(next(greedy_lineups(FLAT_FORTY)), NAMES)
        self.assertEqual(list(greedy_lineups(CHAIN_FORTY)), [NAMES[::-1]])

    def test_zigzags(self):
        for order in SOME + five_orders(31):
            found = [row for row in itertools.permutations(order.places, 4) if slow_zigzag(order, row)]
            told = zigzag(order)
            self.assertEqual(told is None, not found)
            self.assertTrue(told is None or told in found)
        for order in SMALL[::4]:
            for row in itertools.product(order.places, repeat=4):
                self.assertIs(is_zigzag(order, row), slow_zigzag(order, row))
        # All three are steps, but a is ahead of d, by e.
        longer = Order(SEVEN[:5], (("a", "c"), ("b", "c"), ("b", "d"), ("a", "e"), ("e", "d")))
        self.assertIs(is_zigzag(longer, ("a", "b", "c", "d")), False)
        check_spoilt(
            self, lambda value: is_zigzag(ZIG, value), lambda value: slow_zigzag(ZIG, value), ("a", "b", "c", "d"))
        for bad in ODD_VALUES:
            for k in range(4):
                value = ("a", "b", "c", "d")[:k] + (bad,) + ("a", "b", "c", "d")[k + 1:]
                self.assertIs(is_zigzag(ZIG, value), slow_zigzag(ZIG, value))
        self.assertIsNotNone(zigzag(BOOLEAN))
        self.assertIsNone(zigzag(LEVELS))
        whole = with_pairs(FLAT_FORTY, itertools.product(NAMES[:20], NAMES[20:]))
        self.assertIsNone(zigzag(whole))
        less = whole.without_step(NAMES[7], NAMES[31])
        self.assertIs(is_zigzag(less, zigzag(less)), True)
        self.assertEqual((zigzag(less)[0], zigzag(less)[3]), (NAMES[7], NAMES[31]))


class TimeTest(unittest.TestCase):
    def test_time_papers(self):
        chance = random.Random(204)
        words = {"lineup": 0, "late": 0}
        for order in SOME:
            for lengths, deadlines in times_for(order, chance):
                paper = time_paper(order, lengths, deadlines)
                words[paper[0]] += 1
                self.assertTrue(slow_time_paper(order, lengths, deadlines, paper), paper)
                self.assertIs(is_time_paper(order, lengths, deadlines, paper), True)
                found = any(slow_in_time(lengths, deadlines, row) for row in slow_lineups(order))
                self.assertEqual(paper[0] == "lineup", found)
        self.assertGreater(min(words.values()), 100)

    def test_in_time_and_due(self):
        chance = random.Random(205)
        for order in SMALL[::2] + spread_orders()[2:3]:
            for lengths, deadlines in times_for(order, chance):
                for row in slow_lineups(order)[:30]:
                    self.assertIs(
                        is_in_time(order, lengths, deadlines, row), slow_in_time(lengths, deadlines, row))
                for time in set(deadlines.values()) | {0, 1, min(deadlines.values()) - 1, TIMES}:
                    self.assertEqual(due_by(order, deadlines, time), slow_due(order, deadlines, time))

    def test_all_late_papers(self):
        chance = random.Random(206)
        for order in SMALL[::5]:
            for lengths, deadlines in itertools.islice(times_for(order, chance), 2):
                for time in range(-1, 12):
                    for lot in slow_closed_lots(order):
                        value = ("late", time, lot)
                        self.assertIs(
                            is_time_paper(order, lengths, deadlines, value),
                            slow_time_paper(order, lengths, deadlines, value))
                for row in itertools.permutations(order.places):
                    value = ("lineup", row)
                    self.assertIs(
                        is_time_paper(order, lengths, deadlines, value),
                        slow_time_paper(order, lengths, deadlines, value))

    def test_edges(self):
        self.assertEqual(time_paper(ONE, {"a": 2}, {"a": 1}), ("late", 1, ("a",)))
        self.assertEqual(time_paper(ONE, {"a": 1}, {"a": 1}), ("lineup", ("a",)))
        self.assertEqual(time_paper(ONE, {"a": 1000}, {"a": TIMES}), ("lineup", ("a",)))
        self.assertIs(is_in_time(ONE, {"a": 1}, {"a": 1}, ("a",)), True)
        self.assertIs(is_in_time(ONE, {"a": 2}, {"a": 1}, ("a",)), False)
        self.assertEqual(due_by(ONE, {"a": 1}, 0), ())
        self.assertEqual(due_by(ONE, {"a": 1}, 1), ("a",))
        self.assertEqual(due_by(ONE, {"a": TIMES}, TIMES - 1), ())
        self.assertEqual(due_by(ONE, {"a": TIMES}, TIMES), ("a",))
        self.assertIs(is_time_paper(ONE, {"a": 1000}, {"a": 1}, ("late", 999, ("a",))), True)
        self.assertIs(is_time_paper(ONE, {"a": 1000}, {"a": 1}, ("late", 1000, ("a",))), False)
        self.assertIs(is_time_paper(ONE, {"a": 1000}, {"a": 1}, ("late", 0, ())), False)
        self.assertIs(is_time_paper(ONE, {"a": 2}, {"a": 1}, ("late", True, ("a",))), False)
        # A place is due as early as what is behind it.
        units = {"a": 1, "b": 1, "c": 1}
        self.assertEqual(time_paper(VEE, units, {"a": 9, "b": 1, "c": 9})[:2], ("late", 1))

    def test_many_places(self):
        chance = random.Random(207)
        for order in (BOOLEAN, FORTY, CHAIN_FORTY, FLAT_FORTY, LEVELS, JUST_4001):
            row = next(greedy_lineups(order))
            lengths = {place: chance.randint(1, 1000) for place in order}
            deadlines, end = {}, 0
            for place in row:
                end += lengths[place]
                deadlines[place] = end
            self.assertIs(is_in_time(order, lengths, deadlines, row), True)
            paper = time_paper(order, lengths, deadlines)
            self.assertEqual(paper[0], "lineup")
            self.assertIs(is_time_paper(order, lengths, deadlines, paper), True)
            deadlines[row[-1]] -= 1
            paper = time_paper(order, lengths, deadlines)
            self.assertEqual((paper[0], paper[2]), ("late", order.places))
            self.assertIs(is_time_paper(order, lengths, deadlines, paper), True)

    def test_spoilt_papers(self):
        for order, lengths, deadlines in (
                (ONE, {"a": 1}, {"a": 2}), (ONE, {"a": 3}, {"a": 2}),
                (VEE, {"a": 1, "b": 1, "c": 1}, {"a": 3, "b": 1, "c": 3}),
                (VEE, {"a": 1, "b": 1, "c": 1}, {"a": 1, "b": 3, "c": 2}),
                (PAIRS, {"a": 1, "b": 2, "c": 1, "d": 3}, {"a": 5, "b": 4, "c": 4, "d": 7})):
            check_spoilt(
                self, lambda value: is_time_paper(order, lengths, deadlines, value),
                lambda value: slow_time_paper(order, lengths, deadlines, value), time_paper(order, lengths, deadlines))

    def test_judge_takes_all_values(self):
        for order in EXAMPLES:
            for most in (1, 1000):
                lengths, deadlines = {place: most for place in order}, {place: 9 for place in order}
                paper = time_paper(order, lengths, deadlines)
                check_judge(self, lambda value: is_time_paper(order, lengths, deadlines, value))
                for bad in ODD_VALUES:
                    for k in range(len(paper)):
                        value = paper[:k] + (bad,) + paper[k + 1:]
                        self.assertIs(
                            is_time_paper(order, lengths, deadlines, value),
                            slow_time_paper(order, lengths, deadlines, value))


class WrongArgumentsTest(unittest.TestCase):
    def test_orders_and_lineups(self):
        for order in (ONE, VEE):
            lineup = lineup_case(order, slow_lineups(order)[0])
            for call in (jumps, is_greedy):
                check_cases(self, call, order_case(order), lineup)
            for call in (jump_number, jump_lineup, jump_paper, zigzag):
                check_cases(self, call, order_case(order))
            for call in (is_jump_paper, is_zigzag):
                check_cases(self, call, order_case(order), free_case(None))
        for bad in NO_ORDERS:
            check_late(self, greedy_lineups, (bad,), InvalidOrder)

    def test_lengths_and_deadlines(self):
        for order in (ONE, VEE):
            good = {place: 1 for place in order}
            lengths, deadlines = weights_case(order, good, 1, 1000), weights_case(order, good, 1, TIMES)
            lineup = lineup_case(order, slow_lineups(order)[0])
            check_cases(self, is_in_time, order_case(order), lengths, deadlines, lineup)
            check_cases(self, time_paper, order_case(order), lengths, deadlines)
            check_cases(self, is_time_paper, order_case(order), lengths, deadlines, free_case(None))
            times = Case(1, no_indices(TIMES), InvalidNumber, "value")
            check_cases(self, due_by, order_case(order), deadlines, times)

    def test_bounds(self):
        for lengths, deadlines in (({"a": 0}, {"a": 1}), ({"a": 1001}, {"a": 1}), ({"a": 1}, {"a": 0}),
                                   ({"a": 1}, {"a": TIMES + 1})):
            check_error(self, time_paper, [ONE, lengths, deadlines], Case(None, [], InvalidOperation), None)
            check_error(self, is_in_time, [ONE, lengths, deadlines, None], Case(None, [], InvalidOperation), None)

    def test_too_many(self):
        for order in (TOPS_4001, JUST_4000, JUST_4001, FLAT_FORTY):
            for call in (jump_number, jump_lineup, jump_paper):
                check_too_many(self, call, order)
            for value in (None, (), ("table", order.places, {})):
                check_too_many(self, is_jump_paper, order, value)
            self.assertTrue(slow_closed(order, order.places))
            self.assertEqual(len(next(greedy_lineups(order))), len(order))


if __name__ == "__main__":
    unittest.main()
