"""The names of the interface, where they are defined, and the form of the code."""

import ast
import inspect
import unittest
from importlib import import_module
from pathlib import Path

PACKAGE = Path(__file__).resolve().parent.parent / "cushionshots"

# Each file of the interface with functions, and their parameters.
INTERFACE = {
    "places": {
        "is_table": "value", "is_shot": "table value", "is_fraction": "value", "folded": "side number",
        "place_at": "table shot time", "way_at": "table shot time", "shot_at": "table shot time", "turned": "shot",
        "scaled": "table shot many", "crossed": "table shot",
    },
    "hits": {
        "count_hits": "table shot time", "count_cushion": "table shot cushion time", "nth_hit": "table shot index",
        "hits": "table shot", "hit_words": "table shot many",
    },
    "rounds": {"round_time": "table shot", "round_hits": "table shot", "corner_hit": "table shot"},
    "pockets": {
        "first_at": "table shot spot", "first_in_box": "table shot box", "first_in_stretch": "table shot stretch",
        "count_in_stretch": "table shot stretch time", "first_pocket": "table shot stretches",
    },
    "balls": {
        "first_meeting": "table shot other", "are_together": "table shot other",
        "count_meetings": "table shot other time",
    },
    "cones": {
        "cone": "table spot cushions", "direction_for": "table spot cushions", "words": "table spot many",
        "count_words": "table spot many",
    },
    "apart": {"first_unlike": "table shot other", "telling": "table shots"},
    "texts": {
        "format_table": "table", "format_shot": "shot", "format_cushions": "cushions", "parse_table": "text",
        "parse_shot": "text", "parse_cushions": "text",
    },
}

# Each class of the interface, but for the errors: its file, its signature, its own methods with their parameters, its
# own properties.
CLASSES = {
    "Ball": (
        "objects", "(table, shot)", {
            "__call__": "(self, time)", "__neg__": "(self)", "__and__": "(self, other)", "__eq__": "(self, other)",
            "__contains__": "(self, x)",
        }, ("table", "shot"),
    ),
    "LiveTable": (
        "live", "(table, pockets=())", {
            "add": "(self, shot)", "roll": "(self, many)", "take": "(self, number)", "undo": "(self)",
            "try_changes": "(self, *changes)", "told_words": "(self)", "__len__": "(self)",
        }, ("balls_now", "fallen_now", "time_now"),
    ),
    "CalmTable": ("kinds", "(table, pockets=())", {"told_words": "(self)"}, ()),
    "BoundedTable": ("kinds", "(table, pockets=(), most=30)", {"told_words": "(self)"}, ()),
    "CalmBoundedTable": ("kinds", "(table, pockets=(), most=30)", {"told_words": "(self)"}, ()),
}


def trees():
    """Each file of the package with its text and its syntax tree."""
    for path in sorted(PACKAGE.rglob("*.py")):
        text = path.read_text(encoding="utf-8")
        yield path, text, ast.parse(text)


class InterfaceTest(unittest.TestCase):
    def test_functions_and_their_parameters(self):
        for name, functions in INTERFACE.items():
            module = import_module("cushionshots." + name)
            for function, parameters in functions.items():
                found = getattr(module, function)
                self.assertEqual(list(inspect.signature(found).parameters), parameters.split(), function)
                self.assertEqual(found.__module__, "cushionshots." + name)

    def test_classes_with_their_own_methods_and_properties(self):
        for name, (file, signature, methods, properties) in CLASSES.items():
            found = getattr(import_module("cushionshots." + file), name)
            self.assertEqual(found.__module__, "cushionshots." + file)
            self.assertEqual(str(inspect.signature(found)), signature)
            for method, parameters in methods.items():
                self.assertEqual(str(inspect.signature(vars(found)[method])), parameters, (name, method))
            for one in properties:
                self.assertIsInstance(vars(found)[one], property)
                self.assertIsNone(vars(found)[one].fset)

    def test_class_value_class_method_and_static_method(self):
        from cushionshots.live import LiveTable

        self.assertEqual(vars(LiveTable)["EMPTY"], ())
        self.assertIsInstance(vars(LiveTable)["read"], classmethod)
        self.assertEqual(str(inspect.signature(LiveTable.read)), "(table_text)")
        self.assertIsInstance(vars(LiveTable)["is_valid"], staticmethod)
        self.assertEqual(str(inspect.signature(LiveTable.is_valid)), "(value)")

    def test_which_class_is_below_which(self):
        from cushionshots.kinds import BoundedTable, CalmBoundedTable, CalmTable
        from cushionshots.live import LiveTable

        self.assertEqual((CalmTable.__bases__, BoundedTable.__bases__), ((LiveTable,), (LiveTable,)))
        self.assertEqual(sorted(one.__name__ for one in CalmBoundedTable.__bases__), ["BoundedTable", "CalmTable"])
        self.assertEqual(LiveTable.__bases__, (object,))

    def test_hits_is_a_generator(self):
        from cushionshots.hits import hits

        self.assertTrue(inspect.isgenerator(hits((4, 2), (1, 0, 1, 1))))


class FormTest(unittest.TestCase):
    def test_sizes_and_characters(self):
        for path, text, tree in trees():
            with self.subTest(path.name):
                lines = text.split("\n")
                self.assertLess(len(lines), 400)
                self.assertLessEqual(max(len(line) for line in lines), 120)
                self.assertTrue(all(sign == "\n" or " " <= sign <= "~" for sign in text))
                for node in ast.walk(tree):
                    if isinstance(node, ast.FunctionDef):
                        self.assertLessEqual(node.end_lineno - node.lineno + 1, 40, node.name)

    def test_imports_name_the_file_that_defines_the_name(self):
        for path, _, tree in trees():
            for node in ast.walk(tree):
                self.assertNotIsInstance(node, ast.Import)
                if isinstance(node, ast.ImportFrom) and node.module != "math":
                    module = import_module(node.module)
                    for alias in node.names:
                        found = getattr(module, alias.name)
                        self.assertEqual(getattr(found, "__module__", node.module), node.module, (path.name, alias.name))

    def test_no_floats(self):
        for path, _, tree in trees():
            for node in ast.walk(tree):
                self.assertNotIsInstance(node, ast.Div, path.name)
                if isinstance(node, ast.Constant):
                    self.assertNotIsInstance(node.value, (float, complex), path.name)


if __name__ == "__main__":
    unittest.main()
