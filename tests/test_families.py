"""Families of lots [0.15], [4.1] to [4.3]."""

import itertools
import random
import unittest

from downsets.back.families import (
    completed, family_paper, is_family, is_family_paper, order_of, own_lots, unparted)
from downsets.base.lots import closed_lots
from downsets.base.orders import Order
from downsets.errors import InvalidLot, InvalidOperation, InvalidOrder
from tests.helper import (
    BOOLEAN, EXAMPLES, FORTY, LETTERS, ODD_VALUES, SEVEN, VEE, ZIG, Case, all_lots, all_orders, check_cases,
    check_judge, check_spoilt, five_orders, free_case, odd_but, order_case, same, slow_closed, slow_closed_lots,
    small_orders, spread_orders)

NO_PLACES = odd_but(lambda value: isinstance(value, tuple) and value in (
    ("a",), ("a", "b"), ("b", "a"), ("a", "z"), ("zz",), ("none", "join", "a", "b"))) + [
    SEVEN + ("h",), ["a", "b"], ("a", "A"), ("a", "b", "b")]


def no_lots_of(places):
    lots = all_lots(places)

    def are_good(value):
        return isinstance(value, tuple) and all(isinstance(lot, tuple) and lot in lots for lot in value)

    return odd_but(are_good) + [
        ((), places), [()], ((), None), ((), ["a"]), (("z",),), ((places[0], places[0]),), ((True,),),
        ((), tuple(sorted(places)), "a")]


def told_lots(many):
    """Many tuples of lots of the first letters, in mixed order, some repeated."""
    chance = random.Random(many)
    places = tuple(LETTERS[:many])
    lots = all_lots(places)
    if many <= 3:
        found = [chosen for k in range(len(lots) + 1) for chosen in itertools.combinations(lots, k)]
    else:
        found = [tuple(chance.sample(lots, chance.randrange(len(lots) + 1))) for _ in range(300)]
        found += [slow_closed_lots(order) for order in all_orders(many)[::7]]
    for chosen in found:
        row = list(chosen) + list(chosen[:2])
        chance.shuffle(row)
        names = list(places)
        chance.shuffle(names)
        yield tuple(names), tuple(row)


def union_of(one, other):
    return tuple(sorted(set(one) | set(other)))


def common_of(one, other):
    return tuple(sorted(set(one) & set(other)))


def does_part(lots, one, other):
    return any((one in lot) != (other in lot) for lot in lots)


def slow_order(places, lots):
    """The order of which the lots are the closed ones, or None."""
    for order in all_orders(len(places)):
        if order.places == tuple(sorted(places)) and set(slow_closed_lots(order)) == set(lots):
            return order
    return None


def slow_paper(places, lots, value):
    """Judge a family paper by its words."""
    if not isinstance(value, tuple) or not value:
        return False
    if same(value, ("empty",)):
        return () not in lots
    if same(value, ("whole",)):
        return tuple(sorted(places)) not in lots
    if len(value) == 2 and value[0] == "order" and isinstance(value[1], Order):
        order = value[1]
        return order.places == tuple(sorted(places)) and set(slow_closed_lots(order)) == set(lots)
    if len(value) != 3:
        return False
    word, one, other = value
    if word == "alike":
        good = isinstance(one, str) and isinstance(other, str) and one in places and other in places
        return good and one < other and not does_part(lots, one, other)
    if not any(same(one, lot) for lot in lots) or not any(same(other, lot) for lot in lots) or not one < other:
        return False
    if word == "union":
        return union_of(one, other) not in lots
    return word == "common" and common_of(one, other) not in lots


def hand_papers(places, lots):
    """All values of the forms of papers, right and wrong ones."""
    yield ("empty",)
    yield ("whole",)
    for one in places:
        for other in places:
            yield ("alike", one, other)
    few = all_lots(places)[:9]
    for one in few:
        for other in few:
            yield ("union", one, other)
            yield ("common", one, other)


class FamilyTest(unittest.TestCase):
    def test_closed_lots_tell_the_order(self):
        for order in small_orders() + five_orders(11) + spread_orders():
            lots = closed_lots(order)
            self.assertIs(is_family(order.places, lots), True)
            for row in (lots, lots[::-1], lots + lots[:3]):
                self.assertTrue(order_of(order.places[::-1], row) == order)
                paper = family_paper(order.places, row)
                self.assertEqual(len(paper), 2)
                self.assertEqual(paper[0], "order")
                self.assertTrue(paper[1] == order)
                self.assertIs(is_family_paper(order.places, row, ("order", order)), True)
            for k in range(len(lots)):
                less = lots[:k] + lots[k + 1:]
                self.assertIs(is_family(order.places, less), slow_is_family(order.places, less))

    def test_all_papers(self):
        for many in (1, 2, 3):
            for places, lots in told_lots(many):
                order = slow_order(places, lots)
                self.assertIs(is_family(places, lots), order is not None)
                paper = family_paper(places, lots)
                self.assertEqual(paper[0] == "order", order is not None)
                self.assertTrue(slow_paper(places, lots, paper), paper)
                self.assertIs(is_family_paper(places, lots, paper), True)
                if order is None:
                    with self.assertRaises(InvalidOperation):
                        order_of(places, lots)
                else:
                    self.assertTrue(order_of(places, lots) == order)

    def test_papers_made_by_hand(self):
        for many in (1, 2, 3):
            for places, lots in list(told_lots(many))[::3]:
                papers = list(hand_papers(places, lots))
                for order in all_orders(many)[::2]:
                    papers.append(("order", order))
                for value in papers:
                    self.assertIs(is_family_paper(places, lots, value), slow_paper(places, lots, value), repr(value))

    def test_more_places(self):
        for places, lots in told_lots(4):
            found = slow_is_family(places, lots)
            self.assertIs(is_family(places, lots), found)
            paper = family_paper(places, lots)
            self.assertEqual(paper[0] == "order", found)
            self.assertIs(is_family_paper(places, lots, paper), True)
            self.assertTrue(slow_paper(places, lots, paper), paper)

    def test_never_a_bar_and_an_order(self):
        lots = closed_lots(ZIG)
        for value in hand_papers(ZIG.places, lots):
            self.assertIs(is_family_paper(ZIG.places, lots, value), False)

    def test_spoilt_papers(self):
        for places, lots in (
                (("a", "b"), ((), ("a", "b"))), (("a", "b"), ((), ("a",), ("b",))), (("b", "a"), ()),
                (("a", "b"), (("a", "b"),)), (("c", "a", "b"), closed_lots(VEE)),
                (("a", "b", "c"), ((), ("a", "b"), ("b", "c"), ("a", "b", "c")))):
            for value in [family_paper(places, lots)] + list(hand_papers(places, lots)):
                if slow_paper(places, lots, value):
                    check_spoilt(
                        self, lambda other: is_family_paper(places, lots, other),
                        lambda other: slow_paper(places, lots, other), value)

    def test_other_orders_of_the_paper(self):
        lots = closed_lots(ZIG)
        for order in EXAMPLES + (BOOLEAN, FORTY, ZIG.renamed({"a": "x", "b": "b", "c": "c", "d": "d"}), ~ZIG):
            self.assertIs(is_family_paper(ZIG.places, lots, ("order", order)), order == ZIG)

    def test_judges_take_all_values(self):
        check_judge(self, lambda value: is_family(("a", "b"), value))
        check_judge(self, lambda value: is_family_paper(("a", "b"), ((), ("a",), ("b",)), value))
        check_judge(self, lambda value: is_family_paper(("a", "b"), closed_lots(Order(("a", "b"))), value))
        for value in ODD_VALUES:
            self.assertIs(is_family(("a",), value), same(value, ((), ("a",))), repr(value))
        self.assertIs(is_family(("a",), ((), ("a",))), True)
        self.assertIs(is_family(("a",), [(), ("a",)]), False)
        self.assertIs(is_family(("a",), ((), ["a"])), False)


def slow_is_family(places, lots):
    lots = set(lots)
    return (
        () in lots and tuple(sorted(places)) in lots
        and all(union_of(one, other) in lots and common_of(one, other) in lots for one in lots for other in lots)
        and all(does_part(lots, one, other) for one in places for other in places if one != other))


class PartTest(unittest.TestCase):
    def test_unparted(self):
        for many in (1, 2, 3, 4):
            for places, lots in told_lots(many):
                self.assertEqual(unparted(places, lots), tuple(
                    (one, other) for one in sorted(places) for other in sorted(places)
                    if one < other and not does_part(lots, one, other)))

    def test_completed(self):
        for many in (1, 2, 3, 4):
            for places, lots in told_lots(many):
                found = {(), tuple(sorted(places))} | set(lots)
                more = True
                while more:
                    more = {told for one in found for other in found
                            for told in (union_of(one, other), common_of(one, other))} - found
                    found |= more
                self.assertEqual(completed(places, lots), tuple(sorted(found)))
                self.assertEqual(is_family(places, completed(places, lots)), unparted(places, lots) == ())
                self.assertEqual(unparted(places, completed(places, lots)), unparted(places, lots))

    def test_no_lots(self):
        self.assertEqual(completed(("b", "a"), ()), ((), ("a", "b")))
        self.assertEqual(unparted(("b", "a", "c"), ()), (("a", "b"), ("a", "c"), ("b", "c")))
        self.assertIs(is_family(("a",), ()), False)
        self.assertEqual(unparted(("a",), ()), ())
        self.assertEqual(family_paper(("a",), ((), ("a",)))[0], "order")

    def test_own_lots(self):
        for order in small_orders() + spread_orders() + [BOOLEAN, FORTY]:
            lots = own_lots(order)
            self.assertEqual(list(lots), list(order.places))
            pairs = set(order.pairs)
            for place in order:
                self.assertEqual(lots[place], tuple(x for x in order if x == place or (x, place) in pairs))
                for other in order:
                    self.assertEqual(set(lots[place]) < set(lots[other]), (place, other) in pairs)

    def test_own_lots_are_those_with_one_top(self):
        for order in small_orders():
            lots = own_lots(order)
            closed = slow_closed_lots(order)
            one_top = [lot for lot in closed if sum(
                slow_closed(order, tuple(name for name in lot if name != place)) for place in lot) == 1]
            self.assertEqual(sorted(lots.values()), one_top)
            self.assertEqual(completed(order.places, tuple(lots.values())), closed)

    def test_seven_places(self):
        lots = tuple(all_lots(SEVEN))
        self.assertTrue(order_of(SEVEN[::-1], lots[::-1]) == Order.flat(SEVEN))
        self.assertEqual(completed(SEVEN, tuple((place,) for place in SEVEN)), lots)
        self.assertIs(is_family_paper(SEVEN, lots[:60] + lots[61:], ("order", Order.flat(SEVEN))), False)


class WrongArgumentsTest(unittest.TestCase):
    def test_places_and_lots(self):
        places = ("b", "a")
        cases = [Case(places, NO_PLACES, InvalidOrder), Case(((), ("a",), ("a", "b")), no_lots_of(places), InvalidLot)]
        for call in (family_paper, order_of, unparted, completed):
            check_cases(self, call, *cases)
        check_cases(self, is_family_paper, *(cases + [free_case(None)]))
        check_cases(self, is_family, cases[0], free_case(None))

    def test_no_family(self):
        for bad in ((), ((),), ((), ("a", "b")), ((), ("a",), ("b",)), (("a",), ("a", "b")), (("a",), ("b",), ("a", "b"))):
            with self.assertRaises(InvalidOperation):
                order_of(("a", "b"), bad)
            with self.assertRaises(InvalidLot):
                order_of(("a", "b"), bad + (("z",),))

    def test_own_lots(self):
        check_cases(self, own_lots, order_case(ZIG))


if __name__ == "__main__":
    unittest.main()
