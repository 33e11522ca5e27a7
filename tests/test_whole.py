"""What holds over the whole program [0.2], [0.10], [0.15] to [0.21]."""

import itertools
import math
import random
import unittest

from downsets.back.cuts import cut_number, filled
from downsets.back.families import family_paper, order_of
from downsets.back.lattices import does_split, is_lattice, split_paper
from downsets.base.lots import chains_up, closed_lots, closed_number, flat_lots
from downsets.base.orders import Order
from downsets.base.words import added
from downsets.heavy.costs import cheapest_lineup, cost, cost_paper, ends, ladder, least_cost
from downsets.heavy.fractions import blocks, critical_fractions, greatest_mean, mean_paper, nested_lots
from downsets.heavy.jumps import greedy_lineups, jump_number, jump_paper, jumps, time_paper, zigzag
from downsets.heavy.weights import (
    greatest_heaviest, greatest_weight, heaviest_lots, heavy_classes, least_heaviest, weight_paper)
from downsets.lines.two import telling, telling_number, two_number, two_paper
from downsets.maps.cores import core, free_map, loose, maps, maps_number, naming
from downsets.maps.lines import strict_number, turn_numbers, weak_chains, weak_number
from downsets.maps.signs import sign, whole_chains, whole_sign
from downsets.parts.like import is_like, is_prime, like_lots, like_tree
from downsets.parts.stretches import laying_paper, least_laying, order_of_stretches
from downsets.text.texts import read, write
from downsets.use.live import Live, facts
from downsets.ways.lineups import lineup_number, lineups
from downsets.ways.shares import mean_position, shares
from downsets.wide.widths import greatest_flats, height, height_paper, levels, longest_chains, width, width_paper
from downsets.work.rows import fewest_rows, greatest_matching, rows_paper
from tests.helper import (
    CROWN, FLAT, ONE, SEVEN, SQUARE, VEE, ZIG, five_orders, same, small_orders, spread_orders)

SMALL = small_orders()
SOME = SMALL[::2] + five_orders(211) + spread_orders()[2:5]
NUMBERS = (
    closed_number, width, height, lineup_number, telling_number, two_number, weak_chains, turn_numbers, whole_sign,
    whole_chains, cut_number, maps_number, fewest_rows, is_lattice, is_prime)
PLAIN = (
    closed_lots, flat_lots, closed_number, lineup_number, shares, width_paper, height_paper, levels, greatest_flats,
    weak_chains, turn_numbers, telling, two_paper, like_lots, like_tree, laying_paper, cut_number, loose, core,
    maps_number, free_map, jump_number, jump_paper, zigzag, fewest_rows, greatest_matching, rows_paper, facts)
WEIGHED = (
    critical_fractions, nested_lots, blocks, greatest_mean, mean_paper, least_cost, cheapest_lineup, cost_paper, ladder,
    lambda order, weights, lengths: (heaviest_lots(order, weights), weight_paper(order, weights)))


def loads(order):
    """Weights and lengths that depend on the names of the places only."""
    return ({place: (7 * ord(place[0])) % 11 - 5 for place in order}, {place: 1 + ord(place[0]) % 4 for place in order})


def two_orders(chance):
    one, other = chance.choice(small_orders(3)), chance.choice(SMALL)
    return one, other.renamed(dict(zip(other.places, chance.sample("uvwxyz", len(other)))))


class EqualTest(unittest.TestCase):
    def test_orders_made_twice(self):
        chance = random.Random(1)
        for order in SOME:
            names, pairs = list(order.places), list(order.pairs)
            chance.shuffle(names)
            chance.shuffle(pairs)
            again = Order(tuple(names), tuple(pairs + pairs[:1]))
            self.assertEqual(order, again)
            for call in PLAIN:
                self.assertTrue(same(call(order), call(again)), call)
                self.assertTrue(same(call(order), call(order)), call)
            weights, lengths = loads(order)
            for call in WEIGHED:
                self.assertTrue(same(call(order, weights, lengths),
                    call(again, dict(reversed(weights.items())), lengths)))
            self.assertEqual(read("order", write("order", order)), again)

    def test_turned_orders(self):
        for order in SOME:
            turned = ~order
            self.assertEqual(~turned, order)
            self.assertTrue(same([call(order) for call in NUMBERS], [call(turned) for call in NUMBERS]))
            self.assertEqual(facts(order), facts(turned))
            self.assertEqual(sorted(row[::-1] for row in lineups(order)), sorted(lineups(turned)))
            self.assertEqual(jump_number(order), jump_number(turned))
            weights, lengths = loads(order)
            against = {place: -weights[place] for place in order}
            self.assertEqual(greatest_weight(turned, against), greatest_weight(order, weights) - sum(weights.values()))
            greatest = greatest_heaviest(order, weights)
            self.assertEqual(least_heaviest(turned, against), tuple(place for place in order if place not in greatest))
            self.assertEqual(
                critical_fractions(turned, against, lengths),
                tuple((-above, below) for above, below in critical_fractions(order, weights, lengths)[::-1]))
            self.assertEqual(blocks(turned, against, lengths), blocks(order, weights, lengths)[::-1])

    def test_renamed_orders(self):
        chance = random.Random(2)
        for order in SOME:
            names = dict(zip(order.places, chance.sample("abcdefghijklmnop", len(order))))
            other = order.renamed(names)
            self.assertTrue(same([call(order) for call in NUMBERS], [call(other) for call in NUMBERS]))
            self.assertEqual(facts(order), facts(other))
            self.assertEqual(
                sorted(tuple(sorted(names[place] for place in lot)) for lot in closed_lots(order)),
                list(closed_lots(other)))
            self.assertEqual(sorted(tuple(names[place] for place in row) for row in greedy_lineups(order)),
                list(greedy_lineups(other)))
            weights, lengths = loads(order)
            heavy, long = ({names[place]: told[place] for place in order} for told in (weights, lengths))
            self.assertEqual(critical_fractions(order, weights, lengths), critical_fractions(other, heavy, long))
            self.assertEqual(least_cost(order, weights, lengths), least_cost(other, heavy, long))
            self.assertEqual(len(heavy_classes(order, weights)), len(heavy_classes(other, heavy)))
            deadlines = {place: 2 * weights[place] + 12 for place in order}
            late = {names[place]: deadlines[place] for place in order}
            self.assertEqual(time_paper(order, lengths, deadlines)[0], time_paper(other, long, late)[0])
            if len(order) < 6:
                self.assertIsNotNone(naming(order, other))

    def test_orders_beside_and_behind_one_another(self):
        chance = random.Random(3)
        for _ in range(60):
            one, other = two_orders(chance)
            beside, behind = one + other, one >> other
            self.assertEqual(closed_number(beside), closed_number(one) * closed_number(other))
            self.assertEqual(closed_number(behind), closed_number(one) + closed_number(other) - 1)
            self.assertEqual(width(beside), width(one) + width(other))
            self.assertEqual(width(behind), max(width(one), width(other)))
            self.assertEqual(height(beside), max(height(one), height(other)))
            self.assertEqual(height(behind), height(one) + height(other))
            rows = lineup_number(one) * lineup_number(other)
            self.assertEqual(lineup_number(beside), rows * math.comb(len(one) + len(other), len(one)))
            self.assertEqual(lineup_number(behind), rows)
            self.assertEqual(whole_sign(beside), whole_sign(one) + whole_sign(other) + 1)
            self.assertEqual(whole_sign(behind), -whole_sign(one) * whole_sign(other))
            self.assertEqual(jump_number(beside), jump_number(one) + jump_number(other) + 1)
            self.assertEqual(jump_number(behind), jump_number(one) + jump_number(other))
            self.assertEqual(fewest_rows(behind), fewest_rows(one) + fewest_rows(other))
            self.assertEqual(len(core(beside)[0]), len(core(one)[0]) + len(core(other)[0]))
            for k in (1, 2, 3):
                self.assertEqual(weak_number(beside, k), weak_number(one, k) * weak_number(other, k))
            first, second = loads(one), loads(other)
            weights, lengths = ({**early, **late} for early, late in zip(first, second))
            self.assertEqual(greatest_weight(beside, weights),
                greatest_weight(one, first[0]) + greatest_weight(other, second[0]))
            apart = set(critical_fractions(one, *first)) | set(critical_fractions(other, *second))
            self.assertEqual(set(critical_fractions(beside, weights, lengths)), apart)
            # All of the second order ends later by the length of the first one.
            later = sum(first[1].values()) * sum(second[0].values())
            self.assertEqual(least_cost(behind, weights, lengths),
                least_cost(one, *first) + least_cost(other, *second) + later)

    def test_live_orders_and_texts(self):
        chance = random.Random(4)
        for order in SOME[::4]:
            live = Live(order)
            names = dict(zip(order.places, chance.sample("abcdefghijklmnop", len(order))))
            live.rename(names)
            live.turn()
            self.assertEqual(live.order, ~order.renamed(names))
            self.assertEqual(live.undo(many=2), ())
            self.assertEqual(read("order", write("order", live.order)), order)


class MainPromiseTest(unittest.TestCase):
    def test_lots_tell_the_order(self):
        for order in SOME:
            self.assertEqual(order_of(order.places, closed_lots(order)), order)
            self.assertEqual(family_paper(order.places, closed_lots(order)), ("order", order))
            lattice, _ = filled(order)
            self.assertIs(is_lattice(lattice), True)
            if len(lattice) > 1:
                self.assertEqual(split_paper(lattice)[0], "lots" if does_split(lattice) else "five")

    def test_one_polynomial(self):
        for order in SOME:
            for k in range(1, 5):
                self.assertEqual(weak_number(order, -k), (-1) ** len(order) * strict_number(order, k))
            self.assertEqual(weak_chains(order)[-1], lineup_number(order))
            self.assertEqual(weak_number(order, 2), len(closed_lots(order)))

    def test_counts_that_meet(self):
        for order in SOME:
            lot, chains = width_paper(order)
            self.assertEqual((len(lot), len(chains)), (width(order),) * 2)
            chain, flats = height_paper(order)
            self.assertEqual((len(chain), len(flats)), (height(order),) * 2)
            self.assertEqual(max(len(row) for row in chains_up(order)), height(order))
            self.assertLessEqual(telling_number(order), 3)
            self.assertEqual(two_paper(order)[0] == "ring", telling_number(order) == 3)
            total = added(*[mean_position(order, place) for place in order])
            self.assertEqual(total, (len(order) * (len(order) + 1) // 2, 1))
            self.assertGreaterEqual(jump_number(order), width(order) - 1)


class NotTrueTest(unittest.TestCase):
    """[0.21]: none of these is true."""

    def test_flat_lots_and_chains(self):
        self.assertIn(("a", "d"), greatest_flats(ZIG))
        self.assertIn(("b", "c"), list(longest_chains(ZIG)))

    def test_equal_numbers(self):
        self.assertEqual((closed_number(ZIG), closed_number(FLAT)), (8, 8))
        self.assertIsNone(naming(VEE, ~VEE))
        self.assertEqual(closed_number(VEE), closed_number(~VEE))
        for k in range(1, 61):
            self.assertEqual(weak_number(VEE, k), weak_number(~VEE, k))

    def test_greatest_flat_lots_need_not_have_all_places(self):
        self.assertEqual(greatest_flats(VEE), (("b", "c"),))

    def test_the_heaviest_place_and_the_fewest_jumps(self):
        self.assertEqual(heaviest_lots(VEE, {"a": -9, "b": 5, "c": 1}), ((),))
        self.assertGreater(jump_number(CROWN), width(CROWN) - 1)

    def test_cheapest_lineups(self):
        order = Order(("a", "b", "c"), (("a", "b"),))
        weights, lengths = {"a": 0, "b": 9, "c": 1}, {"a": 1, "b": 1, "c": 1}
        self.assertEqual(cheapest_lineup(order, weights, lengths), ("a", "b", "c"))
        self.assertLess(cost(order, weights, lengths, ("a", "b", "c")), cost(order, weights, lengths, ("c", "a", "b")))
        self.assertEqual(ends(order, lengths, ("a", "b", "c")), {"a": 1, "b": 2, "c": 3})

    def test_rows_for_two_workers(self):
        three = FLAT >> Order.flat(("x", "y", "z"))
        self.assertGreater(fewest_rows(three), len(three) // 2)
        self.assertGreater(fewest_rows(three), height(three))

    def test_signs_and_cores(self):
        self.assertEqual(sign(Order(("o",)) >> FLAT >> Order(("z",)), "o", "z"), 2)
        hole = CROWN + Order(("z",))
        self.assertEqual((whole_sign(hole), len(core(hole)[0])), (0, 5))
        self.assertTrue(any(all(images[place] != place for place in images) for images in maps(CROWN)))

    def test_unions_of_like_lots(self):
        self.assertEqual([is_like(VEE, lot) for lot in (("a",), ("b",), ("a", "b"))], [True, True, False])

    def test_orders_of_stretches(self):
        laying = {"a": (1, 3), "b": (1, 2), "c": (1, 1), "d": (2, 3), "e": (3, 4), "f": (2, 4), "g": (4, 4)}
        order = order_of_stretches(laying)
        self.assertEqual(least_laying(order), laying)
        self.assertEqual(telling_number(order), 3)
        self.assertEqual(set(laying), set(SEVEN))

    def test_lineups_drawn_place_by_place(self):
        chances = {}
        for row in lineups(ZIG):
            chances[row] = math.prod(
                sum(1 for place in ZIG if place not in row[:k] and set(ZIG.ahead(place)) <= set(row[:k]))
                for k in range(4))
        self.assertEqual(sorted(set(chances.values())), [4, 8])
        self.assertEqual(lineup_number(ZIG), len(chances))

    def test_no_call_changes_its_arguments(self):
        weights, lengths = {"c": 1, "a": 2, "d": -3, "b": 0}, {"b": 1, "a": 2, "d": 3, "c": 1}
        for call in WEIGHED:
            call(SQUARE, weights, lengths)
        self.assertEqual((list(weights), list(lengths)), (["c", "a", "d", "b"], ["b", "a", "d", "c"]))
        self.assertEqual((weights["d"], lengths["d"]), (-3, 3))
        self.assertEqual(jumps(ONE, ("a",)), ())
        self.assertEqual(len(list(itertools.islice(maps(ONE), 2))), 1)


if __name__ == "__main__":
    unittest.main()
