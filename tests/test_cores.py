"""Cores and maps [0.19], [16.1] to [16.5]."""

import itertools
import random
import unittest

from downsets.base.orders import Order
from downsets.errors import InvalidOperation, InvalidOrder
from downsets.maps.cores import (
    core, does_precede, fixed, fixed_sign, followed, free_map, is_map, is_naming, is_row, is_whole, led, loose, maps,
    maps_number, naming)
from downsets.maps.signs import whole_sign
from tests.helper import (
    BOOLEAN, CHAIN_FORTY, CROWN, EXAMPLES, FLAT, FLAT_FORTY, FORTY, JUST_4001, LEVELS, NAMES, NO_ORDERS, ODD_VALUES,
    ONE, PAIRS, SEVEN, SQUARE, VEE, ZIG, Case, all_orders, check_cases, check_error, check_judge, check_late,
    check_spoilt, check_too_many, five_orders, free_case, odd_but, order_case, same, slow_chain, small_orders,
    spread_orders)

SMALL = small_orders()
SOME = SMALL + five_orders(17) + spread_orders()
LARGE = (BOOLEAN, FORTY, FLAT_FORTY, CHAIN_FORTY, LEVELS, JUST_4001)
EIGHT = (FLAT_FORTY.within(NAMES[:8]), CHAIN_FORTY.within(NAMES[:8]), BOOLEAN)
SWAP, TURN = {"a": "a", "b": "c", "c": "b", "d": "d"}, {"a": "b", "b": "a", "c": "d", "d": "c"}
# No place of it is loose, and it has just seven places.
RING = Order(SEVEN, (("a", "d"), ("a", "e"), ("b", "d"), ("b", "e"), ("d", "f"), ("d", "g"), ("e", "f"), ("e", "g"),
                     ("c", "d"), ("c", "e")))


def slow_loose(order):
    """By the words: steps up and down, which are pairs with nothing between."""
    steps = [
        (one, other) for one, other in order.pairs
        if not any((one, mid) in order.pairs and (mid, other) in order.pairs for mid in order)]
    found = {}
    for place in order:
        up = [other for one, other in steps if one == place]
        down = [one for one, other in steps if other == place]
        holders = sorted((up if len(up) == 1 else []) + (down if len(down) == 1 else []))
        if holders:
            found[place] = tuple(holders)
    return found


def slow_left(order, value):
    """The order that a row of takings leaves, or None."""
    if not isinstance(value, tuple):
        return None
    for taking in value:
        if not isinstance(taking, tuple) or len(taking) != 2:
            return None
        place, holder = taking
        if not isinstance(place, str) or not isinstance(holder, str) or holder not in slow_loose(order).get(place, ()):
            return None
        order = order.without(place)
    return order


def slow_row(order, value):
    return slow_left(order, value) is not None


def slow_whole(order, value):
    left = slow_left(order, value)
    return left is not None and not slow_loose(left)


def all_rows(order):
    """All rows of takings."""
    rows, edge = [()], [((), order)]
    while edge:
        edge = [
            (row + ((place, holder),), left.without(place)) for row, left in edge
            for place, holders in slow_loose(left).items() for holder in holders]
        rows += [row for row, _ in edge]
    return rows


def alike(order, target):
    """All dicts by which two orders are alike."""
    found = []
    if len(order) == len(target):
        for row in itertools.permutations(target.places):
            name = dict(zip(order.places, row))
            if {(name[one], name[other]) for one, other in order.pairs} == set(target.pairs):
                found.append(name)
    return found


def slow_map(order, value):
    if not isinstance(value, dict) or set(value) != set(order.places):
        return False
    if not all(any(same(image, place) for place in order) for image in value.values()):
        return False
    return all(value[one] == value[other] or (value[one], value[other]) in order.pairs for one, other in order.pairs)


MAPS = {}


def slow_maps(order):
    key = (order.places, order.pairs)
    if key not in MAPS:
        rows = itertools.product(order.places, repeat=len(order))
        MAPS[key] = [images for images in (dict(zip(order.places, row)) for row in rows) if slow_map(order, images)]
    return MAPS[key]


def is_at_most(order, images, others):
    return all(images[place] == others[place] or (images[place], others[place]) in order.pairs for place in order)


def slow_whole_sign(order, lot):
    """-1, and the chains of places of a lot, the odd ones less the even ones."""
    total = -1
    for many in range(1, len(lot) + 1):
        total += (1 if many % 2 else -1) * sum(slow_chain(order, row) for row in itertools.combinations(lot, many))
    return total


def slow_fixed_sign(order, images):
    return slow_whole_sign(order, [place for place in order if images[place] == place])


def random_maps(order, chance, many):
    """Maps of an order with any number of places: made of a random one step by step."""
    found = [{place: place for place in order}]
    for _ in range(many):
        images = dict(chance.choice(found))
        place = chance.choice(order.places)
        low = [images[name] for name in order.ahead(place)]
        high = [images[name] for name in order.behind(place)]
        fits = [
            image for image in order if all(image == name or order.is_ahead(name, image) for name in low)
            and all(image == name or order.is_ahead(image, name) for name in high)]
        images[place] = chance.choice(fits)
        found.append(images)
    return found


class LooseTest(unittest.TestCase):
    def test_loose_places(self):
        for order in SOME + all_orders(5)[::5] + list(LARGE[1:4]) + [RING]:
            told = loose(order)
            self.assertTrue(same(told, slow_loose(order)), told)

    def test_edges(self):
        self.assertEqual(loose(ONE), {})
        self.assertEqual(loose(Order.chain(("b", "a"))), {"a": ("b",), "b": ("a",)})
        self.assertEqual(loose(Order.chain(("b", "a", "c"))), {"a": ("b", "c"), "b": ("a",), "c": ("a",)})
        self.assertEqual(loose(FLAT), {})
        self.assertEqual(loose(RING), {})
        self.assertEqual(len(loose(CHAIN_FORTY)), 40)
        self.assertEqual(loose(LEVELS), {})


class RowTest(unittest.TestCase):
    def test_all_short_rows(self):
        for order in small_orders(3):
            pairs = list(itertools.product(order.places, repeat=2))
            for many in range(4):
                for row in itertools.product(pairs, repeat=many):
                    self.assertIs(is_row(order, row), slow_row(order, row))
                    self.assertIs(is_whole(order, row), slow_whole(order, row))
        for order in SMALL[23:]:
            for row in itertools.permutations(list(itertools.permutations(order.places, 2)), 2):
                self.assertIs(is_row(order, row), slow_row(order, row))

    def test_all_rows_and_all_cores_are_alike(self):
        for order in SMALL[::3] + five_orders(499):
            left, row = core(order)
            for value in all_rows(order):
                self.assertIs(is_row(order, value), True)
                rest = slow_left(order, value)
                self.assertIs(is_whole(order, value), not slow_loose(rest))
                if not slow_loose(rest):
                    self.assertTrue(alike(left, rest))

    def test_told_rows(self):
        for order in SOME + [RING, ~RING] + list(LARGE):
            left, row = core(order)
            self.assertIs(is_row(order, row), True)
            self.assertIs(is_whole(order, row), True)
            self.assertIs(is_whole(order, row[:-1]), len(row) == 0)
            self.assertEqual(left.places, tuple(place for place in order if place not in dict(row)))
            self.assertEqual(left.pairs, tuple(pair for pair in order.pairs if not set(pair) & set(dict(row))))
            self.assertTrue(slow_whole(order, row) if order not in LARGE else not slow_loose(left))
            self.assertIs(type(row), tuple)

    def test_sizes_of_cores(self):
        for order, many in ((ONE, 1), (VEE, 1), (FLAT, 3), (PAIRS, 2), (ZIG, 1), (SQUARE, 1), (CROWN, 4), (RING, 7),
                            (CHAIN_FORTY, 1), (FLAT_FORTY, 40), (LEVELS, 40), (BOOLEAN, 1), (FORTY, 1)):
            self.assertEqual(len(core(order)[0]), many)
        self.assertEqual(core(FLAT), (FLAT, ()))
        self.assertEqual(core(ONE), (ONE, ()))

    def test_one_place_beside_none_and_two_orders(self):
        for order in SMALL + five_orders(23):
            if any(all(place == other or not order.is_beside(place, other) for other in order) for place in order):
                self.assertEqual(len(core(order)[0]), 1)
        for one, other in itertools.product(small_orders(3), repeat=2):
            both = one + other.renamed({"a": "x", "b": "y", "c": "z"} if len(other) == 3 else dict(zip(other, "xy")))
            self.assertGreater(len(core(both)[0]), 1)
            self.assertEqual(len(core(both)[0]), len(core(one)[0]) + len(core(other)[0]))

    def test_rows_of_others(self):
        self.assertIs(is_row(VEE, (("b", "a"), ("a", "c"))), True)
        self.assertIs(is_whole(VEE, (("b", "a"), ("a", "c"))), True)
        self.assertIs(is_row(VEE, (("b", "a"), ("b", "a"))), False)
        self.assertIs(is_row(VEE, (("b", "a"), ("a", "b"))), False)
        self.assertIs(is_row(VEE, (("b", "a"), ("a", "c"), ("c", "a"))), False)
        self.assertIs(is_whole(CROWN, ()), True)
        self.assertIs(is_row(SQUARE, (("a", "b"),)), False)

    def test_spoilt_rows(self):
        for order in (ONE, VEE, ZIG, SQUARE, Order.chain(("b", "a"))):
            row = core(order)[1]
            check_spoilt(self, lambda value: is_row(order, value), lambda value: slow_row(order, value), row)
            check_spoilt(self, lambda value: is_whole(order, value), lambda value: slow_whole(order, value), row)

    def test_judges_take_all_values(self):
        for order in EXAMPLES + (FORTY,):
            for judge in (is_row, is_whole, is_map):
                check_judge(self, lambda value: judge(order, value))
            for bad in ODD_VALUES if len(order) < 6 else ():
                self.assertIs(is_row(order, (bad,)), slow_row(order, (bad,)))
                self.assertIs(is_row(order, (("a", bad),)), slow_row(order, (("a", bad),)))
                self.assertIs(is_row(order, ((bad, "a"),)), slow_row(order, ((bad, "a"),)))

    def test_led(self):
        for order in SMALL[::2] + five_orders(811):
            for row in all_rows(order):
                holder = dict(row)
                images = led(order, row)
                self.assertEqual(list(images), list(order.places))
                for place, image in images.items():
                    while place in holder:
                        place = holder[place]
                    self.assertEqual(image, place)
                self.assertTrue(slow_map(order, images))
        for order in LARGE:
            left, row = core(order)
            images = led(order, row)
            self.assertIs(is_map(order, images), True)
            self.assertEqual(fixed(order, images), left.places)


class NamingTest(unittest.TestCase):
    def test_all_pairs_of_orders(self):
        for one, other in itertools.product(small_orders(3), repeat=2):
            self.check_naming(one, other)
        chance = random.Random(16)
        for _ in range(300):
            self.check_naming(*chance.sample(all_orders(4), 2))

    def check_naming(self, order, target):
        found = alike(order, target)
        told = naming(order, target)
        if told is None:
            self.assertEqual(found, [])
        else:
            self.assertIn(told, found)
            self.assertEqual(list(told), list(order.places))
            self.assertIs(is_naming(order, target, told), True)

    def test_all_dicts(self):
        for order, target in itertools.product(small_orders(3)[::2] + [ONE], repeat=2):
            found = alike(order, target)
            for row in itertools.product(target.places, repeat=len(order)):
                value = dict(zip(order.places, row))
                self.assertIs(is_naming(order, target, value), value in found)

    def test_more_places(self):
        chance = random.Random(7)
        for order in five_orders(61) + spread_orders() + [RING]:
            row = chance.sample("abcdefghijkl", len(order))
            target = order.renamed(dict(zip(order.places, row)))
            told = naming(order, target)
            self.assertEqual(order.renamed(told), target)
            self.assertIs(is_naming(order, target, told), True)
            self.assertEqual(naming(order, ~target) is None, not alike(order, ~target))
        self.assertIsNone(naming(ONE, VEE))
        self.assertIsNone(naming(VEE, ONE))
        self.assertIsNone(naming(ZIG, CROWN))
        self.assertIsNone(naming(Order.flat(SEVEN), Order.chain(SEVEN)))

    def test_judged_with_forty_places(self):
        names = dict(zip(NAMES, NAMES[::-1]))
        for order in LARGE[:5]:
            target = order.renamed({place: names[place] for place in order})
            good = {place: names[place] for place in order}
            self.assertIs(is_naming(order, target, good), True)
            self.assertIs(is_naming(order, target, dict(reversed(good.items()))), True)
            if not order.is_flat:
                one, other = order.steps[0]
                self.assertIs(is_naming(order, target, {**good, one: good[other], other: good[one]}), False)
            self.assertIs(is_naming(order, order.within(order.places[1:]), good), False)

    def test_spoilt_namings(self):
        for order, target in ((ONE, Order(("b",))), (VEE, VEE.renamed({"a": "y", "b": "x", "c": "z"})), (ZIG, ZIG)):
            found = alike(order, target)
            check_spoilt(
                self, lambda value: is_naming(order, target, value),
                lambda value: isinstance(value, dict) and value in found and not any(
                    image is True or image == 1 for image in value.values()), naming(order, target))
            check_judge(self, lambda value: is_naming(order, target, value))
            for bad in ODD_VALUES:
                value = {**found[0], "a": bad}
                self.assertIs(is_naming(order, target, value), isinstance(bad, str) and value in found)


class MapsTest(unittest.TestCase):
    def test_all_maps(self):
        for order in SMALL + five_orders(151):
            found = slow_maps(order)
            told = list(maps(order))
            self.assertEqual(told, found)
            self.assertEqual([list(images) for images in told[:3]], [list(order.places)] * len(told[:3]))
            self.assertEqual(maps_number(order), len(found))

    def test_all_dicts(self):
        for order in small_orders(3) + SMALL[23::10]:
            found = slow_maps(order)
            for row in itertools.product(order.places, repeat=len(order)):
                images = dict(zip(order.places, row))
                self.assertIs(is_map(order, images), images in found)

    def test_numbers(self):
        self.assertEqual(maps_number(Order.flat(SEVEN)), 7 ** 7)
        self.assertEqual(maps_number(Order.chain(SEVEN)), 1716)
        self.assertEqual(maps_number(Order(("g",)) >> Order.flat(SEVEN[:6])), 7 ** 6 + 6)
        self.assertEqual(maps_number(Order.flat(SEVEN[:6]) >> Order(("g",))), 7 ** 6 + 6)
        for order in five_orders(211) + spread_orders()[2:3] + spread_orders()[6:] + [RING]:
            self.assertEqual(maps_number(order), len(list(maps(order))))
            self.assertEqual(maps_number(order), maps_number(~order))
        three = Order.flat(SEVEN[:3]) >> Order.flat(SEVEN[3:])
        self.assertEqual(maps_number(three), len(list(maps(three))))

    def test_found_when_requested(self):
        for order in (Order.flat(SEVEN), RING, spread_orders()[4]):
            first = next(maps(order))
            self.assertEqual(first, {place: order.places[0] for place in order})
            rows = itertools.islice(maps(order), 2000)
            told = [tuple(images.values()) for images in rows]
            self.assertEqual(told, sorted(told))
            self.assertTrue(all(slow_map(order, dict(zip(order.places, row))) for row in told))

    def test_spoilt_maps(self):
        for order, images in ((ONE, {"a": "a"}), (VEE, {"c": "a", "a": "a", "b": "b"}), (CROWN, TURN), (SQUARE, SWAP)):
            check_spoilt(self, lambda value: is_map(order, value), lambda value: slow_map(order, value), images)
            for bad in ODD_VALUES:
                self.assertIs(is_map(order, {**images, "a": bad}), slow_map(order, {**images, "a": bad}))

    def test_fixed_places_and_signs(self):
        for order in SMALL:
            for images in slow_maps(order)[::1 if len(order) < 4 else 7]:
                self.assertEqual(fixed(order, images), tuple(place for place in order if images[place] == place))
                self.assertEqual(fixed_sign(order, images), slow_fixed_sign(order, images))
                self.assertEqual(fixed(order, dict(reversed(images.items()))), fixed(order, images))
        for order in LARGE:
            images = {place: place for place in order}
            self.assertEqual(fixed(order, images), order.places)
            self.assertEqual(fixed_sign(order, images), whole_sign(order))
            self.assertEqual(fixed(order, {place: order.places[3] for place in order}), order.places[3:4])
            self.assertEqual(fixed_sign(order, {place: order.places[3] for place in order}), 0)
        self.assertEqual(fixed_sign(CROWN, TURN), -1)
        self.assertEqual(fixed_sign(FLAT, {"a": "a", "b": "b", "c": "a"}), 1)
        self.assertEqual(fixed_sign(FLAT, {"a": "a", "b": "b", "c": "c"}), 2)

    def test_at_most(self):
        for order in small_orders(3):
            for images, others in itertools.product(slow_maps(order), repeat=2):
                self.assertIs(does_precede(order, images, others), is_at_most(order, images, others))
        chance = random.Random(3)
        for order in SMALL[23::3] + five_orders(401):
            for _ in range(40):
                images, others = chance.choice(slow_maps(order)), chance.choice(slow_maps(order))
                self.assertIs(does_precede(order, images, others), is_at_most(order, images, others))

    def test_at_most_judges_all_values(self):
        for order, images in ((ONE, {"a": "a"}), (VEE, {"a": "a", "b": "a", "c": "c"}), (SQUARE, SWAP)):
            check_judge(self, lambda value: does_precede(order, images, value))
            check_spoilt(
                self, lambda value: does_precede(order, images, value),
                lambda value: slow_map(order, value) and is_at_most(order, images, value), images)
        up = {"a": "b", "b": "a", "c": "a"}
        self.assertIs(is_map(VEE, up), False)
        self.assertIs(does_precede(VEE, {"a": "a", "b": "a", "c": "a"}, up), False)

    def test_followed(self):
        for order in small_orders(3):
            for images, others in itertools.product(slow_maps(order), repeat=2):
                told = followed(order, images, others)
                self.assertEqual(told, {place: others[images[place]] for place in order})
                self.assertEqual(list(told), list(order.places))
                self.assertTrue(slow_map(order, told))
        self.assertEqual(followed(CROWN, TURN, TURN), {place: place for place in CROWN})
        turned = dict(zip("dcba", "bbba"))
        self.assertEqual(followed(Order.flat(tuple("abcd")), turned, TURN), dict(zip("abcd", "baaa")))

    def test_free_maps(self):
        for order in SMALL + five_orders(151):
            told = free_map(order)
            is_free = any(all(images[place] != place for place in order) for images in slow_maps(order))
            self.assertEqual(told is not None, is_free)
            self.assertEqual(is_free, len(core(order)[0]) > 1)
            if told is not None:
                self.assertTrue(slow_map(order, told))
                self.assertEqual(list(told), list(order.places))
                self.assertFalse(any(told[place] == place for place in order))
        for order in spread_orders() + [RING, Order.flat(SEVEN), Order.flat(SEVEN[:6]) >> Order(("g",))]:
            told = free_map(order)
            self.assertEqual(told is None, len(core(order)[0]) == 1)
            self.assertTrue(told is None or slow_map(order, told) and all(told[place] != place for place in order))


class PromisesTest(unittest.TestCase):
    def test_maps_at_most_others_have_the_same_sign(self):
        for order in small_orders(3) + SMALL[23::9]:
            found = slow_maps(order)
            signs = [fixed_sign(order, images) for images in found]
            for k, images in enumerate(found):
                for at, others in enumerate(found[:60]):
                    if is_at_most(order, others, images):
                        self.assertEqual(signs[k], signs[at])

    def test_the_whole_sign_is_that_of_the_core(self):
        for order in SOME + [RING] + list(LARGE):
            self.assertEqual(whole_sign(order), whole_sign(core(order)[0]))

    def test_loose_places_and_maps_at_most_others(self):
        for order in SMALL:
            still = {place: place for place in order}
            moved = [
                images for images in slow_maps(order) if images != still
                and (is_at_most(order, images, still) or is_at_most(order, still, images))]
            self.assertEqual(not moved, not loose(order))

    def test_cores_of_one_place(self):
        for order in SMALL + five_orders(301):
            if len(core(order)[0]) == 1:
                for images in slow_maps(order):
                    self.assertEqual(fixed_sign(order, images), 0)
                    self.assertTrue(fixed(order, images))

    def test_a_whole_sign_of_0_is_no_core_of_one_place(self):
        crown = CROWN + Order(("z",))
        self.assertEqual(whole_sign(crown), 0)
        self.assertEqual(core(crown), (crown, ()))
        self.assertIsNotNone(free_map(crown))

    def test_big_ones(self):
        chance = random.Random(12)
        for order in (FORTY, LEVELS, CHAIN_FORTY.within(NAMES[:9])):
            for images in random_maps(order, chance, 60):
                self.assertIs(is_map(order, images), True)
                self.assertIs(does_precede(order, images, images), True)
                others = {**images, order.places[0]: order.places[-1]}
                self.assertIs(is_map(order, others), slow_map(order, others))
                self.assertEqual(followed(order, images, images), {place: images[images[place]] for place in order})


class WrongArgumentsTest(unittest.TestCase):
    def test_orders(self):
        for call in (loose, core, maps_number, free_map):
            check_cases(self, call, order_case(VEE))
        for bad in NO_ORDERS:
            check_late(self, maps, (bad,), InvalidOrder)
        for call in (is_row, is_whole, is_map):
            check_cases(self, call, order_case(VEE), free_case(()))

    def test_rows(self):
        bad = odd_but(lambda value: isinstance(value, tuple) and slow_row(VEE, value))
        bad += [[("b", "a")], (("a", "b"),), (("b", "a"), ("b", "a")), (["b", "a"],), (("b", "zzz"),),
            (("b", "a", "c"),)]
        check_cases(self, led, order_case(VEE), Case((("b", "a"),), bad, InvalidOperation))

    def test_maps(self):
        good = {"a": "a", "b": "a", "c": "c"}
        bad = odd_but(lambda value: slow_map(VEE, value))
        bad += [{**good, "c": True}, {**good, "zzz": "a"}, {"a": "a", "b": "b"}, {"a": "b", "b": "a", "c": "c"}]
        bad += [tuple(good.items()), {**good, "a": None}, {**good, "b": ["a"]}, {"a": "b", "b": "b", "c": "c"}]
        images = Case(good, bad, InvalidOperation)
        check_cases(self, fixed, order_case(VEE), images)
        check_cases(self, fixed_sign, order_case(VEE), images)
        check_cases(self, does_precede, order_case(VEE), images, free_case(good))
        check_cases(self, followed, order_case(VEE), images, images)

    def test_targets(self):
        target = Case(SQUARE, NO_ORDERS, InvalidOrder)
        check_cases(self, naming, order_case(VEE), target)
        check_cases(self, is_naming, order_case(VEE), target, free_case({}))

    def test_too_many(self):
        for order in EIGHT + LARGE:
            for call in (maps_number, free_map):
                check_too_many(self, call, order, limit=7)
            check_too_many(self, lambda order: next(maps(order)), order, limit=7)
            check_too_many(self, naming, order, VEE, limit=7)
            check_too_many(self, naming, VEE, order, limit=7)
            check_too_many(self, naming, order, order, limit=7)
            check_error(self, naming, [order, None], Case(None, [None], InvalidOrder), None)
            self.assertIs(is_naming(order, order, {place: place for place in order}), True)
        self.assertEqual(maps_number(Order.flat(SEVEN)), 823543)
        self.assertIsNotNone(naming(Order.flat(SEVEN), Order.flat(SEVEN)))


if __name__ == "__main__":
    unittest.main()
