"""Texts of values [23.1], [23.2]."""

import random
import re
import unittest

from downsets.base.lots import closed_lots
from downsets.base.orders import Order
from downsets.base.words import is_place
from downsets.errors import Circle, InvalidOperation, InvalidOrder, ParseError
from downsets.heavy.weights import weight_paper
from downsets.parts.stretches import least_laying
from downsets.text.texts import KINDS, is_kind, is_text, read, write
from tests.helper import (
    BOOLEAN, CHAIN_FORTY, EXAMPLES, FLAT, FLAT_FORTY, JUST_4000, NAMES, ODD_VALUES, ONE, SEVEN, VEE, ZIG, Case,
    all_lots, check_cases, check_error, five_orders, free_case, odd_but, same, slow_lineups, small_orders,
    spread_orders)
from tests.test_live import slow_claim

SMALL = small_orders()
PLACE = "[a-z]{1,8}"
NUMBER = "(?:0|-?[1-9][0-9]{0,11})"
LINES = {
    "lot": f"-|{PLACE}(?: {PLACE})*", "lots": f"/|(?:-|{PLACE}(?: {PLACE})*)(?: / (?:-|{PLACE}(?: {PLACE})*))*",
    "lineup": f"{PLACE}(?: {PLACE})*", "pairs": f"-|{PLACE}<{PLACE}(?: {PLACE}<{PLACE})*",
    "weights": f"{PLACE}:{NUMBER}(?: {PLACE}:{NUMBER})*",
    "payments": f"-|{PLACE}>{PLACE}:[1-9][0-9]{{0,11}}(?: {PLACE}>{PLACE}:[1-9][0-9]{{0,11}})*",
    "laying": f"{PLACE}:{NUMBER}\\.\\.{NUMBER}(?: {PLACE}:{NUMBER}\\.\\.{NUMBER})*",
    "claim": f"(?:ahead|beside) {PLACE} {PLACE}|(?:closed|core|height|lines|lineups|width) (?:0|[1-9][0-9]{{0,11}})"}
END = 999999999999


def rising(row):
    return all(one < other for one, other in zip(row, row[1:]))


def words(line):
    return () if line in ("-", "/") else tuple(line.split(" "))


def slow_line(kind, line):
    """The value of a line, or None."""
    if not re.fullmatch(LINES[kind], line):
        return None
    if kind == "lot":
        return words(line) if rising(words(line)) and len(words(line)) <= 40 else None
    if kind == "lots":
        lots = [] if line == "/" else [slow_line("lot", part) for part in line.split(" / ")]
        return None if None in lots or len(lots) > 4000 else tuple(lots)
    if kind == "lineup":
        return words(line) if len(set(words(line))) == len(words(line)) <= 40 else None
    if kind == "pairs":
        pairs = tuple(tuple(word.split("<")) for word in words(line))
        return pairs if rising(pairs) and all(one != other for one, other in pairs) else None
    if kind == "claim":
        parts = words(line)
        if len(parts) == 3:
            return parts if parts[1] != parts[2] else None
        return (parts[0], int(parts[1]))
    rows = [re.split("[:>]|\\.\\.", word) for word in words(line)]
    if kind == "payments":
        pairs = [((one, other), int(many)) for one, other, many in rows]
        keys = [key for key, _ in pairs]
        return dict(pairs) if rising(keys) and all(one != other for one, other in keys) else None
    if kind == "laying":
        rows = [(place, (int(begin), int(end))) for place, begin, end in rows]
        if any(begin > end for _, (begin, end) in rows):
            return None
    else:
        rows = [(place, int(number)) for place, number in rows]
    return dict(rows) if rising([place for place, _ in rows]) else None


def slow_read(kind, text):
    """The value of a text, or the index of the first line that cannot stand there."""
    lines = text.split("\n")
    if kind != "order":
        value = slow_line(kind, lines[0])
        return (None, 0) if value is None else (None, 1) if len(lines) > 1 else (value, None)
    places = slow_line("lot", lines[0])
    if not places or len(places) > 7:
        return (None, 0)
    pairs = ()
    if len(lines) > 1:
        pairs = slow_line("pairs", lines[1])
        try:
            order = Order(places, pairs)
        except (InvalidOrder, Circle):
            return (None, 1)
        if not pairs or order.steps != pairs:
            return (None, 1)
    return (None, 2) if len(lines) > 2 else (Order(places, pairs), None)


def slow_lot(value):
    return isinstance(value, tuple) and len(value) <= 40 and all(map(is_place, value)) and rising(value)


def slow_pair(value):
    return isinstance(value, tuple) and len(value) == 2 and all(map(is_place, value)) and value[0] != value[1]


def slow_number(value):
    return type(value) is int and abs(value) <= END


def slow_stretch(value):
    return isinstance(value, tuple) and len(value) == 2 and all(map(slow_number, value)) and value[0] <= value[1]


def slow_kind(kind, value):
    """Whether a value is one of a kind."""
    if kind == "order":
        return isinstance(value, Order) and len(value) <= 7
    if kind == "claim":
        return slow_claim(value) and (len(value) == 3 or slow_number(value[1]))
    if kind in ("weights", "laying"):
        good = slow_number if kind == "weights" else slow_stretch
        if not isinstance(value, dict) or not value:
            return False
        return all(map(is_place, value)) and all(map(good, value.values()))
    if kind == "payments":
        return isinstance(value, dict) and all(map(slow_pair, value)) and all(
            slow_number(many) and many > 0 for many in value.values())
    if not isinstance(value, tuple):
        return False
    if kind == "lot":
        return slow_lot(value)
    if kind == "lots":
        return len(value) <= 4000 and all(map(slow_lot, value))
    if kind == "lineup":
        return 1 <= len(value) <= 40 and all(map(is_place, value)) and len(set(value)) == len(value)
    return all(map(slow_pair, value)) and rising(value)


def values_of(kind, chance):
    """Some values of a kind, with their texts."""
    lot = tuple(sorted(chance.sample(["a", "b", "oak", "zz", "az", "longname"], chance.randint(0, 4))))
    number = chance.choice((0, 1, -1, 7, -23, END, -END, 10 ** 11))
    places = lot or ("q",)
    if kind == "lot":
        return lot, " ".join(lot) or "-"
    if kind == "lots":
        lots = tuple(values_of("lot", chance)[0] for _ in range(chance.randint(0, 4)))
        return lots, " / ".join(" ".join(part) or "-" for part in lots) or "/"
    if kind == "lineup":
        row = chance.sample(places, len(places))
        return tuple(row), " ".join(row)
    if kind == "pairs":
        pairs = sorted({tuple(chance.sample(("a", "b", "oak", "zz"), 2)) for _ in range(chance.randint(0, 4))})
        return tuple(pairs), " ".join(one + "<" + other for one, other in pairs) or "-"
    if kind == "weights":
        told = {place: chance.choice((number, 3)) for place in places}
        return told, " ".join(place + ":" + str(told[place]) for place in places)
    if kind == "payments":
        told = {pair: abs(number) or 1 for pair in values_of("pairs", chance)[0]}
        return told, " ".join(f"{one}>{other}:{told[(one, other)]}" for one, other in told) or "-"
    if kind == "laying":
        told = {place: tuple(sorted((number, chance.choice((0, -5, 5, END))))) for place in places}
        return told, " ".join(f"{place}:{told[place][0]}..{told[place][1]}" for place in places)
    if kind == "order":
        order = chance.choice(SMALL + spread_orders()[:3])
        steps = " ".join(one + "<" + other for one, other in order.steps)
        return order, " ".join(order.places) + ("\n" + steps if steps else "")
    claims = (("ahead", "b", "a"), ("beside", "a", "oak"), ("width", abs(number)), ("lineups", 3), ("core", 0))
    claim = chance.choice(claims)
    return claim, " ".join(map(str, claim))


def spoilt_texts(text, chance, many):
    """A text with a sign put in, taken out or exchanged."""
    signs = "ab z-/:<>.,019\n "
    for _ in range(many):
        k = chance.randint(0, len(text))
        sign = chance.choice(signs)
        yield chance.choice((text[:k] + sign + text[k:], text[:k] + text[k + 1:], text[:k] + sign + text[k + 1:]))


def turned_dict(value):
    return dict(reversed(value.items())) if isinstance(value, dict) else value


class TextsTest(unittest.TestCase):
    def check_read(self, kind, text):
        value, line = slow_read(kind, text)
        self.assertIs(is_text(kind, text), line is None, (kind, text))
        if line is None:
            told = read(kind, text)
            self.assertTrue(same(told, value), (kind, text))
            self.assertEqual(write(kind, told), text)
        else:
            with self.assertRaises(ParseError) as caught:
                read(kind, text)
            self.assertEqual(caught.exception.line, line, (kind, text))

    def test_written_and_read(self):
        chance = random.Random(23)
        for kind in KINDS:
            for _ in range(150):
                value, text = values_of(kind, chance)
                self.assertEqual(write(kind, value), text)
                self.assertEqual(write(kind, turned_dict(value)), text)
                self.assertTrue(same(read(kind, text), value))
                self.assertIs(is_text(kind, text), True)
                self.check_read(kind, text)

    def test_spoilt_texts(self):
        chance = random.Random(230)
        for kind in KINDS:
            good = 0
            for _ in range(100):
                _, text = values_of(kind, chance)
                for spoilt in spoilt_texts(text, chance, 12):
                    self.check_read(kind, spoilt)
                    good += is_text(kind, spoilt)
            self.assertGreater(good, 10)

    def test_texts_of_other_kinds(self):
        chance = random.Random(231)
        for kind in KINDS:
            for other in KINDS:
                for _ in range(5):
                    self.check_read(other, values_of(kind, chance)[1])

    def test_texts_without_members(self):
        told = {"-": ("lot", "lots", "pairs", "payments"), "/": ("lots",), "": (), " ": (), "\n": ()}
        for text, kinds in told.items():
            for kind in KINDS:
                self.assertIs(is_text(kind, text), kind in kinds)
                self.check_read(kind, text)
        for kind, value, text in (
                ("lot", (), "-"), ("lots", (), "/"), ("lots", ((),), "-"), ("lots", ((), ()), "- / -"),
                ("pairs", (), "-"), ("payments", {}, "-")):
            self.assertEqual(write(kind, value), text)
            self.assertEqual(read(kind, text), value)

    def test_numbers(self):
        for number in (0, 1, -1, END, -END, END - 1):
            self.assertEqual(read("weights", f"a:{number}"), {"a": number})
            self.assertEqual(write("weights", {"a": number}), f"a:{number}")
        bad = ["00", "01", "-0", "-01", "+1", "1.", "1_0", "1e3", " 1", "0x1", "--1", "-", "", "one", "1 "]
        bad += [str(END + 1), str(-END - 1), "1" * 13, "1" * 400, "1" * 5000, "0" * 13]
        for text in bad:
            for line, kind in ((f"a:{text}", "weights"), (f"b>a:{text}", "payments"), (f"a:{text}..{text}", "laying"),
                               (f"a:0..{text}", "laying"), (f"width {text}", "claim")):
                self.assertIs(is_text(kind, line), False, line)
                self.check_read(kind, line)
        for number in (END + 1, -END - 1, 10 ** 39):
            for kind, value in (
                    ("weights", {"a": number}), ("payments", {("b", "a"): number}), ("claim", ("width", number)),
                    ("laying", {"a": (number, number)}), ("laying", {"a": (0, number)})):
                with self.assertRaises(InvalidOperation):
                    write(kind, value)
        for number in (0, -1):
            with self.assertRaises(InvalidOperation):
                write("payments", {("b", "a"): number})
            self.assertIs(is_text("payments", f"b>a:{number}"), False)
        self.assertIs(is_text("laying", "a:2..1"), False)
        self.assertIs(is_text("laying", "a:1...2"), False)
        self.assertIs(is_text("laying", "a:1..2..3"), False)

    def test_lines(self):
        for text, line in (
                ("a b\na<b", None), ("a b\n", 1), ("a b\n-", 1), ("a b\na<b\n", 2), ("a b\na<b\na<b", 2),
                ("b a\na<b", 0), ("a b\na<c", 1), ("a b\na<b b<a", 1), ("a b c\na<b a<c b<c", 1),
                ("a b c\na<b b<c", None), ("a b c\nb<c a<b", 1), ("\na<b", 0), ("-", 0), ("-\n-", 0),
                ("a b\na<b a<b", 1), ("a b\nx\ny", 1), ("a\n\n", 1), ("a b c d e f g", None),
                ("a b c d e f g h", 0), ("a  b", 0), ("a b \na<b", 0)):
            self.assertEqual(slow_read("order", text)[1], line, text)
            self.check_read("order", text)
        for kind in KINDS:
            if kind != "order":
                _, text = values_of(kind, random.Random(3))
                for more, line in (("\n", 1), ("\n" + text, 1), ("\n\n", 1)):
                    self.assertEqual(slow_read(kind, text + more)[1], line)
                    self.check_read(kind, text + more)
                self.check_read(kind, "\n" + text)

    def test_orders(self):
        for order in SMALL + five_orders(31) + spread_orders():
            text = write("order", order)
            self.assertEqual(read("order", text), order)
            self.check_read("order", text)
            if len(order.pairs) > len(order.steps):
                pairs = " ".join(one + "<" + other for one, other in order.pairs)
                self.assertIs(is_text("order", " ".join(order.places) + "\n" + pairs), False)
        for order in (BOOLEAN, FLAT_FORTY, CHAIN_FORTY.within(NAMES[:8])):
            with self.assertRaises(InvalidOperation):
                write("order", order)
            self.assertIs(is_text("order", " ".join(order.places)), False)

    def test_values_of_the_package(self):
        for order in SMALL[::7] + spread_orders()[:3]:
            for row in slow_lineups(order)[:3]:
                self.assertEqual(read("lineup", write("lineup", row)), row)
            lots = closed_lots(order)
            self.assertEqual(read("lots", write("lots", lots)), lots)
            self.assertEqual(read("pairs", write("pairs", order.pairs)), order.pairs)
            weights = {place: 7 - 4 * len(order.behind(place)) for place in order}
            payments = weight_paper(order, weights)[2]
            self.assertEqual(read("payments", write("payments", payments)), payments)
            self.assertEqual(read("weights", write("weights", weights)), weights)
        self.assertEqual(write("laying", least_laying(ZIG)), "a:1..2 b:1..1 c:3..3 d:2..3")

    def test_bounds(self):
        forty, more = NAMES, NAMES + ("zz",)
        for kind in ("lot", "lineup"):
            self.assertEqual(read(kind, write(kind, forty)), forty)
            with self.assertRaises(InvalidOperation):
                write(kind, more)
            self.assertIs(is_text(kind, " ".join(more)), False)
        self.assertIs(is_text("lots", " ".join(forty) + " / a"), True)
        self.assertIs(is_text("lots", " ".join(more) + " / a"), False)
        for many in (3999, 4000):
            self.assertEqual(read("lots", write("lots", ((),) * many)), ((),) * many)
        with self.assertRaises(InvalidOperation):
            write("lots", ((),) * 4001)
        with self.assertRaises(ParseError):
            read("lots", " / ".join(["-"] * 4001))
        lots = closed_lots(JUST_4000)
        self.assertEqual(read("lots", write("lots", lots)), lots)
        wide = {place: k for k, place in enumerate(more)}
        self.assertEqual(read("weights", write("weights", wide)), wide)
        self.assertIs(is_text("lot", "abcdefgh"), True)
        self.assertIs(is_text("lot", "abcdefghi"), False)

    def test_all_small_lots_and_pairs(self):
        for order in (ONE, VEE, FLAT):
            for lot in all_lots(order.places):
                self.assertEqual(write("lot", lot), " ".join(lot) if lot else "-")
                self.assertIs(is_text("lot", " ".join(lot[::-1]) or "-"), len(lot) < 2)
        with self.assertRaises(InvalidOperation):
            write("pairs", (("b", "a"), ("a", "b")))
        self.assertEqual(write("pairs", (("a", "b"), ("b", "a"))), "a<b b<a")
        self.assertEqual(write("lots", (("b",), ("a",), ("b",))), "b / a / b")


class WrongArgumentsTest(unittest.TestCase):
    def test_kinds(self):
        for value in KINDS:
            self.assertIs(is_kind(value), True)
        for value in odd_but(lambda value: isinstance(value, str) and value in KINDS) + ["Lot", "lotss", "", "kind"]:
            self.assertIs(is_kind(value), False)
        bad = odd_but(is_kind) + ["Lot", "lotss", list(KINDS), KINDS]
        kind = Case("lot", bad, InvalidOperation)
        check_cases(self, is_text, kind, free_case("a"))
        check_cases(self, read, kind, Case("a", odd_but(lambda value: isinstance(value, str)), ParseError, None))
        for value in bad:
            for empty in ((), {}):
                check_error(self, write, [value, empty], Case(None, [], InvalidOperation), None)
            check_error(self, is_text, [value, None], Case(None, [], InvalidOperation), None)
        lot = Case(("a",), odd_but(slow_lot) + [("b", "a"), ["a"], ("a", 1)], InvalidOperation)
        check_cases(self, write, kind, lot)

    def test_values_that_are_no_texts(self):
        for kind in KINDS:
            for value in ODD_VALUES:
                if isinstance(value, str):
                    self.check_text(kind, value)
                else:
                    self.assertIs(is_text(kind, value), False)
                    with self.assertRaises(ParseError) as caught:
                        read(kind, value)
                    self.assertIsNone(caught.exception.line)

    def check_text(self, kind, text):
        self.assertIs(is_text(kind, text), slow_read(kind, text)[1] is None)

    def test_values_of_no_kind(self):
        for kind in KINDS:
            for value in ODD_VALUES + EXAMPLES:
                if slow_kind(kind, value):
                    text = write(kind, value)
                    self.assertEqual(read(kind, text), value)
                else:
                    check_error(self, write, [kind, value], Case(None, [], InvalidOperation), None)

    def test_spoilt_values(self):
        chance = random.Random(232)
        for kind in KINDS:
            for _ in range(6):
                value, _ = values_of(kind, chance)
                for bad in ODD_VALUES:
                    if isinstance(value, dict) and value:
                        spoilt = {**value, next(iter(value)): bad}
                    elif isinstance(value, tuple) and value:
                        spoilt = (bad,) + value[1:]
                    else:
                        continue
                    if slow_kind(kind, spoilt):
                        self.assertEqual(read(kind, write(kind, spoilt)), spoilt)
                    else:
                        with self.assertRaises(InvalidOperation):
                            write(kind, spoilt)
        for value in ({}, {"a": True}, {"A": 1}, {"a": 1, "b": None}, {1: 1}, [("a", 1)]):
            with self.assertRaises(InvalidOperation):
                write("weights", value)
        for value in ({("a", "a"): 1}, {("a",): 1}, {"a": 1}, {("a", "b"): True}, {("a", "b"): 0}, ()):
            with self.assertRaises(InvalidOperation):
                write("payments", value)
        for value in ({}, {"a": [1, 2]}, {"a": (2, 1)}, {"a": (1,)}, {"a": (False, 1)}, {"a": 1}):
            with self.assertRaises(InvalidOperation):
                write("laying", value)
        self.assertEqual(write("order", Order.flat(SEVEN)), "a b c d e f g")


if __name__ == "__main__":
    unittest.main()
