"""Live orders [22.1] to [22.4]."""

import itertools
import random
import unittest

from downsets.base.orders import Order
from downsets.base.words import is_place
from downsets.errors import (
    InvalidNumber, InvalidOperation, InvalidOrder, NothingToUndo, OrderError, Refused, UnknownPlace)
from downsets.use.live import WORDS, Live, does_hold, facts, is_claim
from tests.helper import (
    BOOLEAN, CROWN, EXAMPLES, FLAT, FLAT_FORTY, FORTY, JUST_4001, LETTERS, NAMES, NO_ORDERS, ODD_VALUES, ONE, PAIRS,
    SEVEN, SQUARE, VEE, ZIG, Case, all_lots, check_cases, check_error, five_orders, no_places, odd_but, order_case,
    same, slow_chain, slow_closed_lots, slow_flat, slow_lineups, small_orders, spread_orders)
from tests.test_cores import slow_loose

SMALL = small_orders()
BIG = (BOOLEAN, FORTY, FLAT_FORTY, JUST_4001, FLAT_FORTY.within(NAMES[:8]))


class Boom(Exception):
    """An error of the tests' own."""


def slow_lines(order):
    """The least number of line-ups that have just the order in common."""
    rows = slow_lineups(order)
    for many in (1, 2):
        for some in itertools.combinations(rows, many):
            at = [{place: k for k, place in enumerate(row)} for row in some]
            common = {
                (one, other) for one, other in itertools.permutations(order, 2)
                if all(spot[one] < spot[other] for spot in at)}
            if common == set(order.pairs):
                return many
    return 3


def slow_core(order):
    while slow_loose(order):
        order = order.without(next(iter(slow_loose(order))))
    return len(order)


def slow_facts(order):
    lots = all_lots(order.places)
    return {
        "closed": len(slow_closed_lots(order)), "core": slow_core(order),
        "height": max(len(lot) for lot in lots if slow_chain(order, lot)), "lines": slow_lines(order),
        "lineups": len(slow_lineups(order)), "width": max(len(lot) for lot in lots if slow_flat(order, lot))}


def slow_claim(value):
    if not isinstance(value, tuple) or not value or not isinstance(value[0], str):
        return False
    if value[0] in ("ahead", "beside"):
        return len(value) == 3 and is_place(value[1]) and is_place(value[2]) and value[1] != value[2]
    return value[0] in WORDS and len(value) == 2 and type(value[1]) is int and value[1] >= 0


def slow_hold(places, pairs, known, claim):
    if claim[0] == "ahead":
        return claim[1:] in pairs
    if claim[0] == "beside":
        return set(claim[1:]) <= set(places) and claim[1:] not in pairs and claim[:0:-1] not in pairs
    if claim[0] == "lineups":
        return known["lineups"] >= claim[1]
    return known[claim[0]] <= claim[1]


def news(before, now):
    return tuple((word, before[word], now[word]) for word in sorted(before) if before[word] != now[word])


class Plain:
    """What a live order should be, by plain tables."""

    def __init__(self, places, pairs):
        self.now = (frozenset(places), frozenset(pairs), ())
        self.past = []
        self.coming = []

    def order(self, now=None):
        places, pairs, _ = now or self.now
        return Order(tuple(sorted(places)), tuple(sorted(pairs)))

    def known(self, now=None):
        return facts(self.order(now))

    def go(self, name, arguments):
        """The news, or the error that is raised, with what it keeps."""
        found = getattr(self, name)(*arguments)
        if isinstance(found, tuple) and found and isinstance(found[0], type):
            return found
        places, pairs, pins = found
        if name not in ("pin", "unpin"):
            for claim in pins:
                if not slow_hold(places, pairs, self.known(found), claim):
                    return (Refused, claim)
        before = self.known()
        self.past.append((name, self.now))
        self.coming = []
        self.now = found
        return news(before, self.known())

    def two(self, one, other):
        for place in (one, other):
            if place not in self.now[0]:
                return (UnknownPlace, place)
        return (InvalidOperation, None) if one == other else None

    def put(self, one, other):
        places, pairs, pins = self.now
        wrong = self.two(one, other)
        if wrong or (other, one) in pairs:
            return wrong or (InvalidOperation, None)
        low = [one] + [place for place in places if (place, one) in pairs]
        high = [other] + [place for place in places if (other, place) in pairs]
        return (places, pairs | set(itertools.product(low, high)), pins)

    def take(self, one, other):
        places, pairs, pins = self.now
        wrong = self.two(one, other)
        between = any((one, mid) in pairs and (mid, other) in pairs for mid in places)
        if wrong or (one, other) not in pairs or between:
            return wrong or (InvalidOperation, None)
        return (places, pairs - {(one, other)}, pins)

    def add(self, place):
        places, pairs, pins = self.now
        if not is_place(place) or place in places or len(places) > 6:
            return (InvalidOrder, None)
        return (places | {place}, pairs, pins)

    def remove(self, place):
        places, pairs, pins = self.now
        if place not in places:
            return (UnknownPlace, place)
        if len(places) == 1:
            return (InvalidOrder, None)
        return (places - {place}, frozenset(pair for pair in pairs if place not in pair), pins)

    def turn(self):
        places, pairs, pins = self.now
        return (places, frozenset(pair[::-1] for pair in pairs), pins)

    def rename(self, names):
        places, pairs, pins = self.now
        if set(names) != places or len(set(names.values())) < len(names) or not all(map(is_place, names.values())):
            return (InvalidOperation, None)
        return (frozenset(names.values()), frozenset((names[one], names[other]) for one, other in pairs), pins)

    def pin(self, claim):
        places, pairs, pins = self.now
        if not slow_claim(claim) or claim in pins:
            return (InvalidOperation, None)
        return (places, pairs, pins + (claim,)) if slow_hold(places, pairs, self.known(), claim) else (Refused, claim)

    def unpin(self, claim):
        places, pairs, pins = self.now
        if not slow_claim(claim) or claim not in pins:
            return (InvalidOperation, None)
        return (places, pairs, tuple(pinned for pinned in pins if pinned != claim))

    def undo(self, many):
        return self.step(many, self.past, self.coming)

    def redo(self, many):
        return self.step(many, self.coming, self.past)

    def step(self, many, source, target):
        if many > len(source):
            return (NothingToUndo, many)
        before = self.known()
        for _ in range(many):
            name, other = source.pop()
            target.append((name, self.now))
            self.now = other
        return news(before, self.known())


def drawn_change(plain, chance):
    """A name of a change and its arguments, right ones and wrong ones."""
    places, pairs, pins = plain.now
    names = sorted(places) + [chance.choice(LETTERS)]
    name = chance.choice(("put", "put", "take", "add", "remove", "turn", "rename", "pin", "pin", "unpin"))
    if name == "take" and pairs and chance.random() < 0.8:
        return name, chance.choice(sorted(pairs))
    if name in ("put", "take"):
        return name, (chance.choice(names), chance.choice(names))
    if name in ("add", "remove"):
        return name, (chance.choice(names + (["A"] if name == "add" else [])),)
    if name == "rename":
        row = chance.sample("abcdefgh", len(places))
        return name, (dict(zip(sorted(places), row)) if chance.random() < 0.8 else {"a": "b"},)
    if name == "turn":
        return name, ()
    if name == "unpin" and pins and chance.random() < 0.8:
        return name, (chance.choice(pins),)
    word = chance.choice(WORDS + ("ahead", "beside", "ahead", "beside", "depth"))
    if word in ("ahead", "beside"):
        return name, ((word, chance.choice(names), chance.choice(names)),)
    return name, ((word, plain.known().get(word, 0) + chance.randint(-1, 2)),)


class FactsTest(unittest.TestCase):
    def test_facts(self):
        for order in SMALL + five_orders(199) + [FLAT, CROWN, Order.chain(SEVEN)]:
            self.assertTrue(same(facts(order), slow_facts(order)), order.pairs)
        self.assertEqual(tuple(facts(ONE)), WORDS)
        for order in spread_orders()[2:3]:
            self.assertEqual(facts(order), slow_facts(order))

    def test_claims(self):
        claims = [("ahead", "a", "zzz"), ("beside", "oak", "b"), ("width", 0), ("lineups", 10 ** 39), ("core", 7)]
        for value in claims:
            self.assertIs(is_claim(value), True)
        bad = [("ahead", "a", "a"), ("ahead", "a"), ("ahead", "a", "b", "c"), ("ahead", "a", 1), ("ahead", "A", "b"),
               ("width", -1), ("width", True), ("width", "1"), ("width",), ("width", 1, 1), ("depth", 1), ("Width", 1),
               ["width", 1], (), ("width", None), ("beside", "a", "ninelette"), ("lineups", [1]), (["width"], 1),
               "width 1"]
        for value in bad:
            self.assertIs(is_claim(value), False, value)
        for value in ODD_VALUES:
            self.assertIs(is_claim(value), slow_claim(value))
            for claim in claims:
                for k in range(len(claim)):
                    spoilt = claim[:k] + (value,) + claim[k + 1:]
                    self.assertIs(is_claim(spoilt), slow_claim(spoilt))

    def test_claims_that_hold(self):
        for order in SMALL[::3] + spread_orders()[2:3]:
            known = slow_facts(order)
            names = order.places + ("z",)
            for word, one, other in itertools.product(("ahead", "beside"), names, names):
                if one != other:
                    claim = (word, one, other)
                    self.assertIs(does_hold(order, claim), slow_hold(order.places, order.pairs, known, claim))
            for word in WORDS:
                for many in {0, known[word] - 1, known[word], known[word] + 1}:
                    good = many <= known[word] if word == "lineups" else many >= known[word]
                    self.assertIs(does_hold(order, (word, many)), good)

    def test_wrong_arguments(self):
        bad = odd_but(slow_claim) + [("ahead", "a", "a"), ("width", True), ["width", 1], ("depth", 1)]
        check_cases(self, does_hold, order_case(VEE), Case(("width", 1), bad, InvalidOperation))
        check_cases(self, facts, order_case(VEE))
        check_cases(self, Live, order_case(VEE))
        for order in BIG:
            for call in (facts, Live, lambda order: does_hold(order, None)):
                check_error(self, call, [order], Case(None, [], InvalidOrder), None)
        self.assertEqual(facts(Order.flat(SEVEN))["closed"], 128)


class HistoryTest(unittest.TestCase):
    def check_equal(self, live, plain):
        """The order, the pins, the log, the facts: as the plain tables tell."""
        order, pins = plain.order(), plain.now[2]
        self.assertEqual(live.order, order)
        self.assertEqual(live.pins, pins)
        self.assertEqual(list(live), list(pins))
        self.assertEqual(live.log, tuple(name for name, _ in plain.past))
        self.assertEqual({word: live[word] for word in WORDS}, facts(order))
        self.assertEqual(len(live), len(order.pairs))
        self.assertEqual(str(live), f"{order}; {len(pins)} pins")
        for claim in pins:
            self.assertIs(does_hold(live.order, claim), True)
        for place in LETTERS:
            self.assertIs(place in live, place in order)

    def do(self, live, plain, name, arguments):
        """The same call of both; a refused one changes nothing."""
        told = plain.go(name, arguments)
        self.check_call(lambda: getattr(live, name)(*arguments), told)
        self.check_equal(live, plain)
        return told

    def step(self, live, plain, name, many):
        told = getattr(plain, name)(many)
        self.check_call(lambda: getattr(live, name)(many=many), told)
        self.check_equal(live, plain)

    def check_call(self, call, told):
        if not told or not isinstance(told[0], type):
            self.assertTrue(same(call(), told))
            return
        with self.assertRaises(told[0]) as caught:
            call()
        self.assertIs(type(caught.exception), told[0])
        kept = {UnknownPlace: "place", Refused: "reason", NothingToUndo: "many"}.get(told[0])
        if kept:
            self.assertEqual(getattr(caught.exception, kept), told[1])

    def test_drawn_histories(self):
        chance = random.Random(22)
        seen = {}
        for start in (ONE, VEE, FLAT, ZIG, CROWN, PAIRS, SQUARE, Order.flat(SEVEN), Order.chain(SEVEN[:6])) * 3:
            live, plain = Live(start), Plain(start.places, start.pairs)
            self.check_equal(live, plain)
            for _ in range(40):
                if chance.random() < 0.75:
                    name, arguments = drawn_change(plain, chance)
                    told = self.do(live, plain, name, arguments)
                    word = told[0] if told and isinstance(told[0], type) else "done"
                    seen[(name, word)] = seen.get((name, word), 0) + 1
                else:
                    self.step(live, plain, chance.choice(("undo", "redo")), chance.choice((0, 1, 1, 2, 3, 99)))
            many = len(live.log)
            self.step(live, plain, "undo", many)
            self.assertEqual((live.order, live.pins, live.log), (start, (), ()))
            self.step(live, plain, "redo", many)
            self.step(live, plain, "redo", 1 + len(plain.coming))
        for name in ("put", "take", "add", "remove", "turn", "rename", "pin", "unpin"):
            self.assertGreater(seen.get((name, "done"), 0), 5, name)
        for name in ("put", "take", "add", "remove", "rename", "pin"):
            self.assertGreater(seen.get((name, Refused), 0), 0, name)

    def test_drawn_blocks_and_twins(self):
        chance = random.Random(220)
        for start in (VEE, ZIG, FLAT, CROWN) * 6:
            live, plain = Live(start), Plain(start.places, start.pairs)
            for _ in range(5):
                for _ in range(4):
                    self.do(live, plain, *drawn_change(plain, chance))
                self.step(live, plain, "undo", min(2, len(plain.past)))
                twin, other = live.twin(), Plain((), ())
                other.now, other.past, other.coming = plain.now, list(plain.past), list(plain.coming)
                self.assertEqual(twin, live)
                with live.attempt() as same_one:
                    self.assertIs(same_one, live)
                    inner = Plain((), ())
                    inner.now, inner.past, inner.coming = plain.now, list(plain.past), list(plain.coming)
                    for _ in range(3):
                        self.do(live, inner, *drawn_change(inner, chance))
                        self.step(live, inner, chance.choice(("undo", "redo")), 1)
                self.check_equal(live, plain)
                self.step(live, plain, "redo", len(plain.coming))
                self.do(live, plain, "turn", ())
                self.check_equal(twin, other)
                self.step(twin, other, "redo", len(other.coming))
                self.do(twin, other, *drawn_change(other, chance))
                self.check_equal(live, plain)


class LiveTest(unittest.TestCase):
    def test_changes_that_change_nothing(self):
        live = Live(VEE)
        self.assertEqual(live.put("a", "b"), ())
        self.assertEqual(live.rename({"a": "a", "b": "b", "c": "c"}), ())
        self.assertEqual((live.order, live.log), (VEE, ("put", "rename")))
        self.assertEqual(live.undo(many=0), ())
        self.assertEqual(live.log, ("put", "rename"))
        live.undo()
        self.assertEqual(live.redo(many=0), ())
        live.put("a", "c")
        with self.assertRaises(NothingToUndo):
            live.redo()
        self.assertEqual(live.log, ("put", "put"))

    def test_a_refused_call_leaves_what_can_be_done_again(self):
        live = Live(VEE)
        live.add("d")
        live.undo()
        for call in (lambda: live.put("b", "b"), lambda: live.take("b", "c"), lambda: live.add("a"),
            lambda: live.remove("z"),
                     lambda: live.rename({}), lambda: live.pin(("width", 0)), lambda: live.unpin(("width", 2))):
            with self.assertRaises((OrderError, UnknownPlace, Refused)):
                call()
        self.assertEqual(live.redo(), (("closed", 5, 10), ("core", 1, 2), ("lineups", 2, 8), ("width", 2, 3)))

    def test_the_first_claim_that_would_not_hold(self):
        live = Live(VEE)
        live.pin(("beside", "b", "c"))
        live.pin(("height", 2))
        live.pin(("lineups", 2))
        for _ in range(2):
            with self.assertRaises(Refused) as caught:
                live.put("b", "c")
            self.assertEqual(caught.exception.reason, ("beside", "b", "c"))
        live.unpin(("beside", "b", "c"))
        with self.assertRaises(Refused) as caught:
            live.put("b", "c")
        self.assertEqual(caught.exception.reason, ("height", 2))
        self.assertEqual(live.pins, (("height", 2), ("lineups", 2)))
        # The errors of the method come before a refusal.
        with self.assertRaises(InvalidOperation):
            live.put("b", "b")

    def test_claims_keep_their_places(self):
        live = Live(VEE)
        live.pin(("ahead", "a", "b"))
        with self.assertRaises(Refused):
            live.rename({"a": "x", "b": "b", "c": "c"})
        with self.assertRaises(Refused):
            live.turn()
        live.rename({"a": "a", "b": "c", "c": "b"})
        self.assertEqual(live.pins, (("ahead", "a", "b"),))

    def test_pairs_that_come_with_a_pair_stay(self):
        live = Live(Order(("a", "b", "c", "d"), (("a", "b"), ("c", "d"))))
        live.put("b", "c")
        live.take("b", "c")
        self.assertEqual(live.order.pairs, (("a", "b"), ("a", "c"), ("a", "d"), ("b", "d"), ("c", "d")))

    def test_blocks(self):
        live = Live(VEE)
        live.put("b", "c")
        live.add("d")
        live.undo()
        with self.assertRaises(Boom):
            with live.attempt() as same_one:
                self.assertIs(same_one, live)
                live.turn()
                live.pin(("core", 9))
                with live.attempt():
                    live.undo(many=3)
                self.assertEqual(live.log, ("put", "turn", "pin"))
                raise Boom()
        self.assertEqual((live.log, live.pins, live.order), (("put",), (), Order.chain(("a", "b", "c"))))
        self.assertEqual(live["closed"], 4)
        self.assertEqual(live.redo()[0], ("closed", 4, 8))

    def test_a_block_begins_when_it_is_entered(self):
        live = Live(VEE)
        block = live.attempt()
        live.turn()
        with block:
            live.add("d")
        self.assertEqual((live.order, live.log), (~VEE, ("turn",)))
        with block:
            live.add("d")
        self.assertEqual((live.order, live.log), (~VEE, ("turn",)))

    def test_during(self):
        live = Live(VEE)
        self.assertIs(live.during(lambda same_one: same_one), live)
        self.assertEqual(live.during(lambda same_one: (same_one.turn(), same_one.log)), ((), ("turn",)))
        self.assertIsNone(live.during(lambda same_one: None))
        with self.assertRaises(Boom):
            live.during(self.fail_behind_a_change)
        self.assertEqual((live.order, live.log), (VEE, ()))

    def fail_behind_a_change(self, live):
        live.add("x")
        raise Boom()

    def test_steps(self):
        live = Live(VEE)
        for call in (live.undo, live.redo):
            for bad in odd_but(lambda value: type(value) is int and value >= 0) + [-1]:
                with self.assertRaises(InvalidNumber) as caught:
                    call(many=bad)
                self.assertIs(caught.exception.value, bad)
            for many in (1, 2, 10 ** 11):
                with self.assertRaises(NothingToUndo) as caught:
                    call(many=many)
                self.assertEqual(caught.exception.many, many)
            self.assertEqual(call(many=0), ())
            with self.assertRaises(NothingToUndo):
                call()
            with self.assertRaises(TypeError):
                call(1)

    def test_words(self):
        live = Live(ZIG)
        self.assertEqual([live[word] for word in WORDS], list(facts(ZIG).values()))
        for bad in ODD_VALUES + ("Width", "depth", "ahead", ("width",)):
            with self.assertRaises(InvalidOperation):
                live[bad]

    def test_places_and_pins(self):
        live = Live(ZIG)
        for value in ODD_VALUES + ("d", "e"):
            self.assertIs(value in live, isinstance(value, str) and value in "abcd" and len(value) == 1)
        live.pin(("width", 2))
        live.pin(("height", 2))
        found = []
        for claim in live:
            live.pin(("core", len(found) + 1))
            found.append(claim)
        self.assertEqual(found, [("width", 2), ("height", 2)])
        self.assertEqual(len(live.pins), 4)

    def test_equal_ones(self):
        one, other = Live(VEE), Live(Order(("c", "b", "a"), (("a", "c"), ("a", "b"))))
        self.assertTrue(one == other and not one != other)
        other.pin(("width", 2))
        self.assertFalse(one == other or not one != other)
        one.turn()
        one.turn()
        one.pin(("width", 2))
        self.assertEqual(one, other)
        one.pin(("height", 2))
        other.pin(("core", 1))
        self.assertNotEqual(one, other)
        one, other = Live(VEE), Live(VEE)
        for live, claims in ((one, (("width", 2), ("core", 1))), (other, (("core", 1), ("width", 2)))):
            for claim in claims:
                live.pin(claim)
        self.assertNotEqual(one, other)
        for value in ODD_VALUES:
            self.assertIs(Live(FLAT) == value, False)
            self.assertIs(Live(FLAT) != value, True)
        self.assertNotEqual(Live(FLAT), FLAT)
        self.assertNotEqual(Live(VEE), Live(FLAT))

    def test_sizes(self):
        self.assertEqual((len(Live(ONE)), len(Live(FLAT)), len(Live(ZIG))), (0, 0, 3))
        self.assertEqual(str(Live(ONE)), "order of 1 places, 0 steps; 0 pins")
        live = Live(Order.flat(SEVEN))
        with self.assertRaises(InvalidOrder):
            live.add("z")
        live.remove("a")
        live.add("z")
        self.assertEqual(live.order.places, SEVEN[1:] + ("z",))
        with self.assertRaises(InvalidOrder):
            Live(ONE).remove("a")

    def test_wrong_arguments(self):
        live = Live(VEE)
        one = Case("b", no_places(VEE), UnknownPlace, "place")
        other = Case("c", no_places(VEE), UnknownPlace, "place")
        before = live.twin()

        def check(name, *cases):
            check_cases(self, lambda *arguments: getattr(live.twin(), name)(*arguments), *cases)
            for k, case in enumerate(cases):
                for bad in case.bad:
                    arguments = [case.good for case in cases]
                    arguments[k] = bad
                    with self.assertRaises(case.error):
                        getattr(live, name)(*arguments)

        check("put", one, other)
        check("take", Case("a", no_places(VEE), UnknownPlace, "place"), other)
        check("remove", one)
        bad = odd_but(lambda value: isinstance(value, str) and is_place(value)) + ["a", "b", "A", "ninelette"]
        check("add", Case("d", bad, InvalidOrder))
        names = {"a": "x", "b": "y", "c": "z"}
        bad = ODD_VALUES + ({**names, "c": "x"}, {**names, "d": "w"}, {**names, "c": None}, {"a": "x", "b": "y"})
        check("rename", Case(names, bad, InvalidOperation))
        bad = odd_but(slow_claim) + [("width", True), ["width", 2], ("depth", 1), ("ahead", "a", "a")]
        check("pin", Case(("width", 2), bad, InvalidOperation))
        # True is no 1, also where claims are looked for.
        live.pin(("core", 1))
        for bad_claim in (("core", True), ["core", 1]):
            with self.assertRaises(InvalidOperation):
                live.unpin(bad_claim)
        live.undo()
        live.pin(("width", 2))
        before.pin(("width", 2))
        check("unpin", Case(("width", 2), bad + [("width", 3)], InvalidOperation))
        with self.assertRaises(InvalidOperation):
            live.pin(("width", 2))
        with self.assertRaises(InvalidOperation):
            live.put("b", "b")
        self.assertEqual((live, live.log), (before, ("pin",)))
        for example in EXAMPLES:
            self.assertEqual(Live(example).order, example)
        self.assertTrue(NO_ORDERS)


if __name__ == "__main__":
    unittest.main()
