"""The shell [23.3]."""

import random
import unittest

from downsets.base.lots import closed_lots
from downsets.base.orders import Order
from downsets.errors import InvalidOperation, NothingToUndo, OrderError, ParseError, Refused, UnknownPlace
from downsets.heavy.weights import greatest_weight, least_heaviest
from downsets.text.shell import Shell
from downsets.text.texts import write
from downsets.use.live import WORDS, Live, facts
from downsets.ways.lineups import lineups
from downsets.ways.shares import mean_position, share
from downsets.work.rows import fewest_rows
from tests.helper import EXAMPLES, ODD_VALUES, ONE, SEVEN, VEE, ZIG, five_orders, small_orders, spread_orders

SMALL = small_orders()
COMMANDS = (
    "order a b; a<b", "put a b", "take a b", "add d", "remove a", "turn", "pin width 9", "unpin width 9", "undo 1",
    "redo 1", "closed", "core", "height", "lines", "lineups", "width", "share a b", "mean a", "lineup 1", "closure a",
    "heavy a:1 b:2 c:3", "rows", "show", "pins")
NO_COMMANDS = (
    "", " ", "jump", "Width", "width ", " width", "width 3", "turn a", "turn ", "rows 2", "show -", "pins -",
    "closed 1", "put", "put a", "put a b c", "put  a b", "put a  b", "put a b ", "put A b", "put a 1", "take a",
    "take a-b", "add", "add ", "add a b", "add A", "add ninelette", "remove", "remove 1", "pin", "pin ", "pin width",
    "pin width -1", "pin width 01", "pin depth 1", "pin ahead a a", "pin ahead a", "pin width 1 ", "unpin",
    "unpin width x", "undo", "undo ", "undo 0", "undo -1", "undo 01", "undo +1", "undo 1 1", "undo a",
    "undo 1000000000000", "redo", "redo 0", "redo 1.0", "lineup", "lineup 0", "lineup -3", "lineup 00", "lineup 1 2",
    "share a", "share a b c", "share a B", "mean", "mean a b", "mean 1", "closure", "closure ", "closure b a",
    "closure a a", "closure a  b", "closure /", "heavy", "heavy -", "heavy a", "heavy a:1 ", "heavy b:1 a:1",
    "heavy a:01", "heavy a:1000000000000", "order", "order ", "order -", "order b a", "order a b;a<b", "order a b; ",
    "order a b; -", "order a b; a<b; ", "order a b; a<b; a<b", "order a b; b<a; ", "order a b c; a<b a<c b<c",
    "order a b; a<c", "order a b; a<b b<a", "order a b c d e f g h", "order a b\na<b", "width\n", "\nwidth",
    "put a b\n", "rename a b", "twin", "undo 1; undo 1", "order a b ; a<b", "order a b;  a<b", "ORDER a",
    "order  a b")


def news_text(news):
    return "; ".join(f"{word} {before} {now}" for word, before, now in news) or "-"


def shell_of(order):
    shell = Shell()
    assert shell.tell("order " + write("order", order).replace("\n", "; ")) == "ok"
    return shell


class TableTest(unittest.TestCase):
    def test_facts_and_orders(self):
        for order in SMALL[::3] + five_orders(397) + spread_orders():
            shell = shell_of(order)
            for word, fact in facts(order).items():
                self.assertEqual(shell(word), str(fact))
            self.assertEqual(shell("show"), write("order", order).replace("\n", "; "))
            self.assertEqual(shell("rows"), str(fewest_rows(order)))
            self.assertEqual(shell("pins"), "-")
            self.assertEqual(len(shell), 4 + len(WORDS))
            self.assertEqual(shell.live(), Live(order))

    def test_shares_and_lineups(self):
        for order in SMALL[::5] + spread_orders()[2:3]:
            shell = shell_of(order)
            for place in order:
                self.assertEqual(shell("mean " + place), "{}/{}".format(*mean_position(order, place)))
                for other in order:
                    told = shell(f"share {place} {other}")
                    if place == other:
                        self.assertEqual(told, "error InvalidOperation")
                    else:
                        self.assertEqual(told, "{}/{}".format(*share(order, place, other)))
            rows = list(lineups(order))
            for k, row in enumerate(rows[:40]):
                self.assertEqual(shell(f"lineup {k + 1}"), " ".join(row))
            self.assertEqual(shell(f"lineup {len(rows) + 1}"), "error InvalidNumber")
            self.assertEqual(shell("mean zzz"), "error UnknownPlace")
            self.assertEqual(shell("share zzz a"), "error UnknownPlace")

    def test_closures_and_weights(self):
        chance = random.Random(233)
        for order in SMALL[::4]:
            shell = shell_of(order)
            for lot in closed_lots(order):
                self.assertEqual(shell("closure " + write("lot", lot)), write("lot", lot))
            for place in order:
                self.assertEqual(shell("closure " + place), write("lot", order.closure((place,))))
            weights = {place: chance.randint(-9, 9) for place in order}
            told = f"{greatest_weight(order, weights)}: {write('lot', least_heaviest(order, weights))}"
            self.assertEqual(shell("heavy " + write("weights", weights)), told)
            self.assertEqual(shell("closure zzz"), "error InvalidLot")
            self.assertEqual(shell("heavy zzz:1"), "error InvalidOperation")
        shell = shell_of(ONE)
        self.assertEqual([shell("heavy a:-1"), shell("heavy a:1000"), shell("heavy a:1001"), shell("closure -")],
                         ["0: -", "1000: a", "error InvalidOperation", "-"])

    def test_changes(self):
        chance = random.Random(234)
        names = "abcdefg"
        for order in [VEE, ZIG, ONE] * 5 + SMALL[::20]:
            shell, live = shell_of(order), Live(order)
            done = 1
            for _ in range(30):
                one, other = chance.choice(names), chance.choice(names)
                many = chance.randint(1, 3)
                claim = chance.choice((("width", many), ("ahead", one, "x"), ("beside", "b", "c"), ("lineups", many)))
                word = chance.choice(("put", "take", "add", "remove", "turn", "pin", "unpin", "undo", "redo"))
                if word in ("put", "take"):
                    line, call = f"{word} {one} {other}", lambda: getattr(live, word)(one, other)
                elif word in ("add", "remove"):
                    line, call = f"{word} {one}", lambda: getattr(live, word)(one)
                elif word == "turn":
                    line, call = word, live.turn
                elif word in ("undo", "redo"):
                    line, call = f"{word} {many}", lambda: getattr(live, word)(many=many)
                else:
                    line, call = word + " " + " ".join(map(str, claim)), lambda: getattr(live, word)(claim)
                try:
                    told = news_text(call())
                except (OrderError, UnknownPlace, NothingToUndo, Refused) as error:
                    told = "error " + type(error).__name__
                done += not told.startswith("error ")
                self.assertEqual(shell.tell(line), told, line)
                self.assertEqual(len(shell), done)
                self.assertEqual(shell.live(), live)
                self.assertEqual(shell.live().log, live.log)
                self.assertEqual(shell("pins"), "; ".join(" ".join(map(str, pin)) for pin in live.pins) or "-")
                self.assertEqual(shell("show"), write("order", live.order).replace("\n", "; "))
                done += 2

    def test_names_of_errors(self):
        shell = shell_of(VEE)
        for line, told in (
                ("put a a", "InvalidOperation"), ("put b a", "InvalidOperation"), ("put z a", "UnknownPlace"),
                ("take b c", "InvalidOperation"), ("add a", "InvalidOrder"), ("remove z", "UnknownPlace"),
                ("undo 9", "NothingToUndo"), ("redo 1", "NothingToUndo"), ("undo 999999999999", "NothingToUndo"),
                ("pin width 1", "Refused"), ("unpin width 2", "InvalidOperation"), ("pin width 2", None),
                ("pin width 2", "InvalidOperation"), ("lineup 3", "InvalidNumber"),
                ("lineup 999999999999", "InvalidNumber"), ("closure z", "InvalidLot"),
                ("heavy a:1", "InvalidOperation"), ("mean z", "UnknownPlace"), ("share a a", "InvalidOperation"),
                ("add d", "Refused"), ("jump", "ParseError"), ("put a", "ParseError")):
            self.assertEqual(shell(line), "-" if told is None else "error " + told, line)
        self.assertEqual(len(shell), 2)
        one = shell_of(ONE)
        self.assertEqual(one("remove a"), "error InvalidOrder")
        self.assertEqual(shell_of(Order.flat(SEVEN))("add z"), "error InvalidOrder")

    def test_a_new_order(self):
        shell = shell_of(VEE)
        shell("pin width 2")
        shell("turn")
        self.assertEqual(shell("order x y z; x<y y<z"), "ok")
        self.assertEqual(shell.live(), Live(Order.chain(("x", "y", "z"))))
        self.assertEqual((shell.live().log, shell("pins"), shell("undo 1")), ((), "-", "error NothingToUndo"))
        self.assertEqual(shell("order a b; b<a"), "ok")
        self.assertEqual(shell("order b a"), "error ParseError")
        self.assertEqual(shell("show"), "a b; b<a")
        self.assertEqual(len(shell), 7)


class LinesTest(unittest.TestCase):
    def test_all_commands(self):
        shell = shell_of(VEE)
        for line in COMMANDS[1:] + COMMANDS[:1]:
            self.assertNotEqual(shell(line), "error ParseError", line)

    def test_lines_that_are_no_commands(self):
        for shell in (Shell(), shell_of(VEE), shell_of(Order.flat(SEVEN))):
            many = len(shell)
            for line in NO_COMMANDS:
                self.assertEqual(shell.tell(line), "error ParseError", line)
            self.assertEqual(len(shell), many)

    def test_spoilt_commands(self):
        shell = shell_of(VEE)
        for line in COMMANDS:
            for spoilt in (line + " ", " " + line, line + "\n", "\n" + line, line + " a b c", line.upper(), line + ";",
                           line.replace(" ", "  ", 1) + " ", line[1:], "x" + line):
                self.assertEqual(shell(spoilt), "error ParseError", spoilt)
                self.assertEqual(Shell()(spoilt), "error ParseError", spoilt)
        self.assertEqual(len(shell), 1)

    def test_without_an_order(self):
        for line in COMMANDS:
            shell = Shell()
            self.assertEqual(shell(line), "ok" if line.startswith("order ") else "error InvalidOrder", line)
            self.assertEqual(len(shell), line.startswith("order "))
            self.assertEqual(shell.live() is None, not line.startswith("order "))
        for line in ("undo 99", "put z z", "heavy zz:999999999999", "closure zz", "lineup 999999999999", "pin core 0"):
            self.assertEqual(Shell()(line), "error InvalidOrder")

    def test_values_that_are_no_strings(self):
        shell = shell_of(VEE)
        for value in ODD_VALUES:
            for call in (shell.tell, shell):
                if isinstance(value, str):
                    self.assertEqual(call(value), "error ParseError")
                else:
                    with self.assertRaises(ParseError) as caught:
                        call(value)
                    self.assertIsNone(caught.exception.line)
            if isinstance(value, tuple) and all(isinstance(line, str) for line in value):
                self.assertEqual(shell.tell_all(value), ("error ParseError",) * len(value))
            else:
                with self.assertRaises(InvalidOperation):
                    shell.tell_all(value)
        self.assertEqual((len(shell), shell.live()), (1, Live(VEE)))
        for value in (["width"], "width", ("width", None), ("turn", 1), ("turn", ["turn"])):
            with self.assertRaises(InvalidOperation):
                shell.tell_all(value)
        self.assertEqual((len(shell), shell.live()), (1, Live(VEE)))

    def test_many_lines(self):
        one, other = shell_of(VEE), shell_of(VEE)
        lines = COMMANDS + NO_COMMANDS[:9] + ("undo 2", "show")
        self.assertEqual(one.tell_all(lines), tuple(other.tell(line) for line in lines))
        self.assertEqual((len(one), one.live()), (len(other), other.live()))
        self.assertEqual(Shell().tell_all(()), ())

    def test_twins(self):
        shell = shell_of(VEE)
        shell("turn")
        twin = shell.live()
        self.assertEqual(twin.log, ("turn",))
        twin.undo()
        twin.add("z")
        self.assertEqual(shell("show"), "a b c; b<a c<a")
        shell("undo 1")
        self.assertEqual(twin.log, ("add",))
        self.assertIsNot(shell.live(), shell.live())

    def test_shells_are_not_iterated(self):
        with self.assertRaises(TypeError):
            iter(shell_of(VEE))
        self.assertEqual(len(Shell()), 0)
        self.assertIsNone(Shell().live())
        for order in EXAMPLES:
            self.assertEqual(shell_of(order).live().order, order)


if __name__ == "__main__":
    unittest.main()
