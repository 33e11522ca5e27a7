"""Every example row of the document, word for word."""

import importlib
import pathlib
import re
import unittest

MODULES = (
    "errors", "base.words", "base.orders", "base.lots", "back.families", "back.lattices", "ways.lineups",
    "ways.shares", "wide.widths", "maps.lines", "maps.signs", "lines.two", "parts.like",
    "parts.along", "parts.stretches", "back.cuts", "maps.cores", "heavy.weights", "heavy.fractions", "heavy.costs",
    "heavy.jumps", "work.rows", "use.live", "text.texts", "text.shell")
TEXT = pathlib.Path(__file__).with_name("examples.txt").read_text()


def all_names():
    """The public names of all modules, each from the module that defines it; of two the later one."""
    names = {}
    for module in MODULES:
        for name, value in vars(importlib.import_module("downsets." + module)).items():
            if not name.startswith("_") and getattr(value, "__module__", "downsets." + module) == "downsets." + module:
                names[name] = value
    return names


class ExamplesTest(unittest.TestCase):
    def test_rows(self):
        names = all_names()
        lines = [line for line in TEXT.split("\n") if line and not line.startswith("# ")]
        checked = 0
        while lines:
            row = lines.pop(0)
            self.assertTrue(row.startswith(">>> "))
            if re.match(r">>> [A-Za-z, ]+ = ", row):
                exec(row[4:], names)
            else:
                self.check_row(row[4:], lines.pop(0), names)
                checked += 1
        self.assertEqual(checked, 74)

    def check_row(self, row, told, names):
        with self.subTest(row=row):
            if told.startswith("raises "):
                with self.assertRaises(names[told.removeprefix("raises ")]) as caught:
                    eval(row, names)
                self.assertEqual(type(caught.exception).__name__, told.removeprefix("raises "))
            else:
                self.assertEqual(repr(eval(row, names)), told)


if __name__ == "__main__":
    unittest.main()
