"""The interface: each name in its own file, with its arguments, and nothing else in the folder."""

import ast
import builtins
import importlib
import inspect
import pathlib
import unittest

from downsets.base.orders import Order
from downsets.text.shell import Shell
from downsets.use.live import Live

PACKAGE = pathlib.Path(__file__).parent.parent / "downsets"
FILES = sorted(PACKAGE.rglob("*.py"))

ERRORS = (
    "OrderError", "InvalidOrder", "InvalidLot", "InvalidLineup", "InvalidOperation", "ParseError", "UnknownPlace",
    "InvalidNumber", "Circle", "TooMany", "NothingToUndo", "Refused")
FUNCTIONS = {
    "base.words": (
        "is_place(value)", "is_fraction(value)", "fraction(numerator, denominator)", "is_lower(one, other)",
        "added(*fractions)", "multiplied(*fractions)"),
    "base.lots": (
        "is_lot(order, value)", "is_closed(order, value)", "is_flat(order, value)", "is_chain(order, value)",
        "closed_lots(order)", "flat_lots(order)", "closed_number(order)", "closed_by_size(order)", "tops(order, lot)",
        "firsts(order, lot)", "rest(order, lot)", "union(order, lot, other)", "common(order, lot, other)",
        "next_places(order, lot)", "last_places(order, lot)", "chains_up(order)"),
    "back.families": (
        "family_paper(places, lots)", "is_family_paper(places, lots, value)", "is_family(places, value)",
        "order_of(places, lots)", "unparted(places, lots)", "completed(places, lots)", "own_lots(order)"),
    "back.lattices": (
        "join(order, one, other)", "meet(order, one, other)", "lowest(order)", "highest(order)", "is_lattice(order)",
        "lattice_paper(order)", "is_lattice_paper(order, value)", "one_down(order)", "one_up(order)",
        "does_split(order)", "split_paper(order)", "is_split_paper(order, value)", "lots_order(order, names)"),
    "ways.lineups": (
        "is_lineup(order, value)", "lineup_number(order)", "lineups(order)", "lineup_at(order, index)",
        "index_of(order, lineup)", "next_lineup(order, lineup)", "ways_through(order, lot)",
        "position_counts(order, place)"),
    "ways.shares": (
        "share(order, one, other)", "shares(order)", "share_ahead(order, place, lot)", "mean_position(order, place)",
        "fair_pair(order)", "is_fair_pair(order, value)", "unlike_pairs(order, lineup, second)",
        "swapped(order, lineup, index)", "swaps(order, lineup, second)", "is_swaps(order, lineup, second, value)"),
    "wide.widths": (
        "width(order)", "height(order)", "width_paper(order)", "height_paper(order)", "is_width_paper(order, value)",
        "is_height_paper(order, value)", "levels(order)", "level(order, place)", "longest_chains(order)",
        "greatest_flats(order)", "lowest_flat(order)", "highest_flat(order)", "lower_flat(order, lot, second)",
        "upper_flat(order, lot, second)"),
    "maps.lines": (
        "is_weak_map(order, many, value)", "is_strict_map(order, many, value)", "weak_maps(order, many)",
        "strict_maps(order, many)", "weak_number(order, number)", "strict_number(order, number)",
        "weak_chains(order)", "strict_chains(order)", "lots_of_map(order, many, numbers)", "map_of_lots(order, lots)",
        "turns(order, lineup, second)", "turn_numbers(order)", "lineup_of_map(order, many, numbers, second)",
        "maps_along(order, many, lineup, second)"),
    "maps.signs": (
        "sign(order, low, high)", "signs(order)", "chain_numbers(order, low, high)", "summed(order, numbers)",
        "turned_back(order, sums)", "closed_sign(order, lot, other)", "whole_chains(order)", "whole_sign(order)",
        "is_crosscut(order, value)", "crosscut_lots(order, crosscut)", "crosscut_sign(order, crosscut)"),
    "lines.two": (
        "common_order(rows)", "is_telling(order, value)", "telling_number(order)", "telling(order)",
        "three_lineups(order)", "forced(order, one, other)", "two_paper(order)", "is_two_paper(order, value)",
        "two_tellings(order)", "two_number(order)", "crossing(order, lineups)"),
    "parts.like": (
        "is_like(order, value)", "like_lots(order)", "is_crossing(order, lot, other)", "least_like(order, lot)",
        "like_tree(order)", "quotient(order, lot)", "replaced(order, place, inner)", "is_prime(order)", "bend(order)",
        "is_bend(order, value)"),
    "parts.along": (
        "heaviest_flat(order, weights)", "heaviest_chain(order, weights)", "is_heaviest_flat(order, weights, value)",
        "is_heaviest_chain(order, weights, value)", "in_row(order, row)", "along(order, fact)"),
    "parts.stretches": (
        "is_laying(order, value)", "laying_paper(order)", "is_laying_paper(order, value)", "least_laying(order)",
        "end_number(order)", "full_flat_lots(order)", "order_of_stretches(laying)", "is_crew_rows(order, many, value)",
        "stretch_rows(order, many)", "is_stretch_rows(order, many, value)"),
    "back.cuts": (
        "uppers(order, lot)", "lowers(order, lot)", "cuts(order)", "cut_number(order)", "gaps(order)",
        "is_cut(order, value)", "cut_of(order, place)", "join_cut(order, lot)", "meet_cut(order, lot)",
        "filled(order)", "is_filled(order, value)", "laid_into(order, lattice, names)",
        "is_laid_into(order, lattice, names, value)"),
    "maps.cores": (
        "loose(order)", "is_row(order, value)", "is_whole(order, value)", "core(order)", "led(order, row)",
        "naming(order, target)", "is_naming(order, target, value)", "is_map(order, value)", "maps(order)",
        "maps_number(order)", "fixed(order, images)", "fixed_sign(order, images)",
        "does_precede(order, images, value)", "followed(order, images, others)", "free_map(order)"),
    "heavy.weights": (
        "weight_of(order, weights, lot)", "greatest_weight(order, weights)", "heaviest_lots(order, weights)",
        "least_heaviest(order, weights)", "greatest_heaviest(order, weights)", "is_payments(order, value)",
        "left_over(order, weights, payments)", "weight_paper(order, weights)",
        "is_weight_paper(order, weights, value)", "heavy_classes(order, weights)", "heavy_order(order, weights)"),
    "heavy.fractions": (
        "length_of(order, lengths, lot)", "mean_of(order, weights, lengths, lot)",
        "heaviest_at(order, weights, lengths, level)", "critical_fractions(order, weights, lengths)",
        "nested_lots(order, weights, lengths)", "blocks(order, weights, lengths)",
        "greatest_mean(order, weights, lengths)", "mean_paper(order, weights, lengths)",
        "is_mean_paper(order, weights, lengths, value)"),
    "heavy.costs": (
        "ends(order, lengths, lineup)", "cost(order, weights, lengths, lineup)", "least_cost(order, weights, lengths)",
        "cheapest_lineup(order, weights, lengths)", "cost_paper(order, weights, lengths)",
        "is_cost_paper(order, weights, lengths, value)", "ladder(order, weights, lengths)",
        "is_ladder(order, weights, lengths, value)", "does_go_along(order, lineup, lots)",
        "cheapest_along(order, weights, lengths, lots)"),
    "heavy.jumps": (
        "jumps(order, lineup)", "jump_number(order)", "jump_lineup(order)", "jump_paper(order)",
        "is_jump_paper(order, value)", "is_greedy(order, lineup)", "greedy_lineups(order)", "zigzag(order)",
        "is_zigzag(order, value)", "is_in_time(order, lengths, deadlines, lineup)", "due_by(order, deadlines, time)",
        "time_paper(order, lengths, deadlines)", "is_time_paper(order, lengths, deadlines, value)"),
    "work.rows": (
        "is_rows(order, value)", "fewest_rows(order)", "rows_of(order)", "rows_along(order, lineup)",
        "lineup_along(order, rows)", "idle(order, rows)", "is_matching(order, value)", "greatest_matching(order)",
        "is_bar(order, value)", "bar_number(order, lots)", "rows_paper(order)", "is_rows_paper(order, value)"),
    "use.live": ("facts(order)", "is_claim(value)", "does_hold(order, claim)"),
    "text.texts": ("is_kind(value)", "write(kind, value)", "read(kind, text)", "is_text(kind, value)"),
}
METHODS = (
    "flat(places)", "chain(places)", "is_ahead(self, one, other)", "is_beside(self, one, other)",
    "ahead(self, place)", "behind(self, place)", "up(self, place)", "down(self, place)",
    "closure(self, lot, *, turned=False)", "within(self, lot)", "without(self, place)", "with_place(self, place)",
    "renamed(self, names)", "with_pair(self, one, other)", "without_step(self, one, other)",
    "is_part_of(self, other)")
OPERATORS = (
    "__init__", "__invert__", "__add__", "__rshift__", "__len__", "__contains__", "__iter__", "__eq__", "__str__")
PROPERTIES = ("places", "pairs", "steps", "firsts", "tops", "is_flat", "is_chain")
LIVE_METHODS = (
    "put(self, one, other)", "take(self, one, other)", "add(self, place)", "remove(self, place)", "turn(self)",
    "rename(self, names)", "pin(self, claim)", "unpin(self, claim)", "undo(self, *, many=1)", "redo(self, *, many=1)",
    "attempt(self)", "during(self, call)", "twin(self)")
LIVE_OPERATORS = ("__init__", "__getitem__", "__contains__", "__len__", "__iter__", "__eq__", "__str__")
LIVE_PROPERTIES = ("order", "pins", "log")
SHELL_METHODS = ("tell(self, line)", "tell_all(self, lines)", "live(self)")
CLASSES = (
    (Order, "downsets.base.orders", "(places, ahead=())", METHODS, OPERATORS, PROPERTIES),
    (Live, "downsets.use.live", "(order)", LIVE_METHODS, LIVE_OPERATORS, LIVE_PROPERTIES),
    (Shell, "downsets.text.shell", "()", SHELL_METHODS, ("__init__", "__len__", "__call__"), ()))
CONSTANTS = {
    "base.words": {"MAX_LETTERS": 8}, "base.orders": {"MAX_PLACES": 7, "MAX_MADE": 40},
    "base.lots": {"MAX_CLOSED": 4000}, "maps.lines": {"MAX_LINE": 60}, "maps.signs": {"MAX_CROSSCUT": 12},
    "lines.two": {"MAX_TOLD": 10, "MAX_RING": 100}, "parts.like": {"SHAPES": ("beside", "behind", "prime")},
    "parts.along": {
        "FACTS": ("closed", "height", "jumps", "lines", "lineups", "pairs", "width"), "MAX_WEIGHT": 1000},
    "parts.stretches": {"MAX_END": 999999999999}, "heavy.weights": {"MAX_WEIGHT": 1000},
    "heavy.fractions": {"MAX_LENGTH": 1000}, "heavy.jumps": {"MAX_TIME": 1000000},
    "use.live": {"WORDS": ("closed", "core", "height", "lines", "lineups", "width")},
    "text.texts": {
        "KINDS": ("claim", "laying", "lineup", "lot", "lots", "order", "pairs", "payments", "weights")}}


CHANGERS = {"append", "clear", "extend", "insert", "pop", "remove", "reverse", "setdefault", "sort", "update"}


def plain_names(node):
    """The names that stand alone in a value, or as one side of a choice."""
    if isinstance(node, ast.Name):
        return {node.id}
    if isinstance(node, ast.IfExp):
        return plain_names(node.body) | plain_names(node.orelse)
    if isinstance(node, ast.BoolOp):
        return set().union(*[plain_names(part) for part in node.values])
    if isinstance(node, ast.Call) and isinstance(node.func, ast.Name) and node.func.id in ("enumerate", "zip", "reversed"):
        return set().union(*[plain_names(part) for part in node.args])
    if isinstance(node, ast.Call) and isinstance(node.func, ast.Attribute) and node.func.attr in ("items", "keys", "values"):
        return plain_names(node.func.value)
    return set()


def shared_names(function):
    """Groups of the names that one list can have in a function."""
    groups = []
    for node in ast.walk(function):
        if isinstance(node, ast.Assign):
            group = plain_names(node.value) | {part.id for part in node.targets if isinstance(part, ast.Name)}
            near = [other for other in groups if other & group]
            groups = [other for other in groups if not other & group] + [group.union(*near)]
    return groups


def changed_names(node):
    """The names of the lists and dicts that a row changes."""
    if isinstance(node, ast.Call) and isinstance(node.func, ast.Attribute) and node.func.attr in CHANGERS:
        return plain_names(node.func.value)
    targets = getattr(node, "targets", []) + [getattr(node, "target", None)]
    return set().union(*[plain_names(part.value) for part in targets if isinstance(part, ast.Subscript)])


def walks_that_change(function):
    """The rows of loops that change what they walk."""
    groups = shared_names(function)
    rows = []
    for node in ast.walk(function):
        if isinstance(node, ast.For):
            walked = plain_names(node.iter)
            walked = walked.union(*[group for group in groups if group & walked])
            inner = [part for row in node.body for part in ast.walk(row)]
            rows.extend([node.lineno for part in inner if changed_names(part) & walked])
    return rows


class InterfaceTest(unittest.TestCase):
    def test_functions_stand_in_their_files(self):
        for name, told in FUNCTIONS.items():
            module = importlib.import_module("downsets." + name)
            for head in told:
                function = getattr(module, head.partition("(")[0])
                self.assertEqual(function.__module__, "downsets." + name)
                self.assertEqual(function.__name__ + str(inspect.signature(function)), head)

    def test_errors_stand_in_their_file(self):
        module = importlib.import_module("downsets.errors")
        for name in ERRORS:
            self.assertEqual(getattr(module, name).__module__, "downsets.errors")

    def test_classes(self):
        for made, module, head, methods, operators, properties in CLASSES:
            self.assertEqual(made.__module__, module)
            self.assertEqual(str(inspect.signature(made)), head)
            for told in methods:
                name = told.partition("(")[0]
                self.assertIn(name, vars(made))
                self.assertEqual(name + str(inspect.signature(getattr(made, name))), told)
            for name in operators + properties:
                self.assertIn(name, vars(made))
            for name in properties:
                self.assertIsInstance(vars(made)[name], property)

    def test_constants(self):
        for name, told in CONSTANTS.items():
            module = importlib.import_module("downsets." + name)
            for constant, value in told.items():
                self.assertEqual(getattr(module, constant), value)


class FilesTest(unittest.TestCase):
    def test_sizes(self):
        for path in FILES:
            lines = path.read_text().split("\n")
            self.assertLess(len(lines), 401, path)
            for line in lines:
                self.assertLessEqual(len(line), 120, path)
                self.assertTrue(all(" " <= sign <= "~" for sign in line), path)
            for node in ast.walk(ast.parse(path.read_text())):
                if isinstance(node, ast.FunctionDef):
                    self.assertLessEqual(node.end_lineno - node.lineno + 1, 40, (path, node.name))

    def test_loops_change_nothing_that_they_walk(self):
        kept = ast.parse(
            "def far(ways):\n while ways:\n  more = []\n  for way in ways:\n   more.append(way)\n  ways = more\n")
        self.assertEqual(walks_that_change(kept), [4])
        for path in FILES:
            for node in ast.walk(ast.parse(path.read_text())):
                if isinstance(node, ast.FunctionDef):
                    self.assertEqual(walks_that_change(node), [], (path, node.name))

    def test_imports(self):
        library = {"math": {"comb", "gcd"}}
        for path in FILES:
            for node in ast.walk(ast.parse(path.read_text())):
                self.assertNotIsInstance(node, ast.Import, path)
                if isinstance(node, ast.ImportFrom):
                    names = {name.name for name in node.names}
                    if not node.module.startswith("downsets."):
                        self.assertLessEqual(names, library.get(node.module, set()), path)
                    for name in names if node.module.startswith("downsets.") else ():
                        made = getattr(importlib.import_module(node.module), name)
                        self.assertEqual(getattr(made, "__module__", node.module), node.module)

    def test_imports_are_used_and_keep_their_names(self):
        for path in FILES:
            tree = ast.parse(path.read_text())
            imports = {name.name for node in ast.walk(tree) if isinstance(node, ast.ImportFrom) for name in node.names}
            read = {node.id for node in ast.walk(tree) if isinstance(node, ast.Name) and isinstance(node.ctx, ast.Load)}
            self.assertLessEqual(imports, read, path)
            bound = {node.id for node in ast.walk(tree) if isinstance(node, ast.Name) and isinstance(node.ctx, ast.Store)}
            bound |= {node.arg for node in ast.walk(tree) if isinstance(node, ast.arg)}
            self.assertEqual(bound & imports, set(), path)
            self.assertEqual(bound & set(vars(builtins)), set(), path)

    def test_the_folder(self):
        for path in PACKAGE.rglob("*"):
            if path.is_dir() and path.name != "__pycache__":
                self.assertTrue((path / "__init__.py").exists(), path)
            elif path.is_file() and path.parent.name != "__pycache__":
                self.assertEqual(path.suffix, ".py")


if __name__ == "__main__":
    unittest.main()
