"""What every module must have under its name, and the plain rules for the files of the package."""

import ast
import doctest
import importlib
import inspect
import pathlib
import unittest
import warnings

from pinnedgaps.use.desk import Desk

ROOT = pathlib.Path(__file__).resolve().parent.parent
PACKAGE = ROOT / "pinnedgaps"
FILES = sorted(PACKAGE.rglob("*.py"))

# Each function with its parameters, in their order.
FUNCTIONS = {
    "pinnedgaps.base.numbers": {
        "is_integer": "value", "is_name": "value", "is_fraction": "value", "is_number": "value",
        "fraction": "top bottom", "added": "one other", "less": "one other", "multiplied": "one other",
        "divided": "one other", "compared": "one other", "power_of": "number many", "floor_of": "number",
        "grid_below": "number halvings", "grid_above": "number halvings", "number_text": "number",
        "number_of_text": "text",
    },
    "pinnedgaps.base.tables": {
        "is_table": "value", "diagonal_table": "numbers", "has_no_minus": "table", "type_of": "table",
        "diagonal_paper": "table", "is_diagonal_paper": "table value", "minus_row": "table",
        "is_minus_row": "table value", "value_at": "table row", "table_sum": "one other",
        "table_scaled": "table number", "table_part": "table places", "changed_table": "table change",
        "determinant": "table",
    },
    "pinnedgaps.bags.lots": {
        "is_lots_data": "value", "is_pin": "lots value", "are_scaled": "one other", "scaled_to": "lots number",
    },
    "pinnedgaps.bags.rows": {
        "rows_lots": "rows states", "lot_of_row": "row states", "row_of_lot": "lot states",
        "is_row_lot": "states value", "joined": "one other", "level_lots": "lots size", "even_weights": "lots",
        "is_even": "lots", "restricted": "lots some", "renamed": "lots names",
    },
    "pinnedgaps.nearby.local": {
        "link_things": "lots pin", "pair_weights": "lots pin", "masses": "lots pin", "local_walk": "lots pin",
        "walk_shares": "lots pin", "hangs_together": "lots pin", "pieces": "lots pin", "parting": "lots pin",
        "is_parting": "lots pin value",
    },
    "pinnedgaps.nearby.bounds": {
        "bound_table": "lots pin bound", "is_bound": "lots pin bound", "near_bound": "lots pin halvings",
        "low_row": "lots pin bound", "is_low_row": "lots pin bound value", "row_quotient_at": "lots pin row",
        "value_stretch": "lots pin halvings",
    },
    "pinnedgaps.nearby.trickle": {
        "level_bound": "lots size halvings", "level_bounds": "lots halvings", "worst_pin": "lots size halvings",
        "are_level_bounds": "lots value", "apart_pin": "lots", "trickled": "bound", "trickle_row": "bound steps",
        "trickle_bounds": "lots halvings",
    },
    "pinnedgaps.going.redraw": {
        "leave_table": "lots", "draw_table": "lots", "redraw_walk": "lots", "grow_walk": "lots",
        "moved": "lots chances", "walk_trace": "lots steps", "grow_trace": "lots steps", "walk_parts": "lots",
        "holding_chance": "lots lot",
    },
    "pinnedgaps.going.gaps": {
        "gap_table": "lots gap", "is_gap": "lots value", "gap_row": "lots gap", "near_gap": "lots halvings",
        "local_gap": "lots halvings", "trickle_gap": "lots halvings", "flow_of": "lots values",
        "row_quotient": "lots values", "cut_quotient": "lots some",
    },
    "pinnedgaps.going.exchange": {
        "lets_exchanges": "lots", "exchanges": "lots one other thing", "exchange_fault": "lots",
        "is_exchange_fault": "lots value", "exchange_path": "lots one other",
        "is_exchange_path": "lots one other value", "double_exchanges": "lots one other", "pinned_fault": "lots",
        "is_pinned_fault": "lots value", "cheapest_lots": "lots prices", "is_settled": "lots one prices",
    },
    "pinnedgaps.nearby.influence": {
        "open_places": "field pins", "influence": "field one other pins", "covariance": "field one other pins",
        "influence_table": "field pins", "covariance_table": "field pins",
        "influence_bound_table": "field pins bound", "is_influence_bound": "field pins bound",
        "near_influence": "field pins halvings", "row_bound": "field pins", "influence_gap": "field halvings",
    },
    "pinnedgaps.twostate.fields": {
        "is_field_data": "value", "is_pins": "field value", "row_weight": "field row", "rows_of": "field",
        "field_lots": "field", "share": "field place pins", "is_tree": "field", "sums_towards": "field place",
        "way_influence": "field one other",
    },
    "pinnedgaps.wood.trees": {
        "is_order": "field value", "plain_order": "field", "is_tree_of_nodes": "field value",
        "tree_ratio": "field nodes", "walk_tree": "field place order pins", "walk_to": "field nodes number",
        "share_by_walks": "field place order pins",
    },
    "pinnedgaps.wood.cuts": {
        "cut_stretch": "field place order depth", "cut_width": "field place order depth",
        "is_in_cut": "field place order depth value", "deepest": "field place order",
        "depth_enough": "field place order width", "is_free_field": "field", "narrow_factor": "field",
        "narrow_bound": "field depth",
    },
    "pinnedgaps.twostate.totals": {
        "total": "field", "shares_chain": "field row", "row_share": "field row", "left_field": "field place state",
        "total_by_places": "field", "total_by_shares": "field row", "total_by_trees": "field row",
        "free_total": "size ties weight", "free_number": "size ties", "free_numbers": "size ties",
        "pairing_field": "size ties", "pairing_number": "size ties",
    },
    "pinnedgaps.going.both": {
        "chance": "field place row", "redrawn": "field row place number", "dependence": "field one other",
        "dependence_table": "field", "dependence_sum": "field", "dependence_gap": "field", "has_order": "field",
        "order_fault": "field", "are_below": "field row value", "corner_shares": "field steps",
    },
    "pinnedgaps.going.steps": {
        "shares_after": "lots lot steps", "distance_after": "lots lot steps", "mean_of": "lots values",
        "variance": "lots values", "left_variance": "lots values", "led_values": "lots values",
        "steps_enough": "lots gap lot number",
    },
    "pinnedgaps.use.desk": {"is_pledge": "value"},
}
# Each class with its methods and their parameters; the own object is left out.
METHODS = {
    ("pinnedgaps.bags.lots", "Lots"): {
        "__init__": "weights", "all_of": "things size", "even": "some", "pins": "size", "weight_of": "pin",
        "share_of": "pin", "link": "pin", "times": "factors", "__eq__": "other", "__len__": "",
        "__contains__": "value", "__str__": "",
    },
    ("pinnedgaps.twostate.fields", "Field"): {
        "__init__": "places ties", "free": "size ties weight", "neighbours": "place", "weights_at": "one other",
        "__eq__": "other", "__len__": "", "__str__": "",
    },
    ("pinnedgaps.use.desk", "Desk"): {
        "__init__": "", "put": "name field", "twice": "name one", "weigh": "name place weights",
        "grow": "name weights", "tie": "name first second weights", "untie": "name first second", "drop": "name",
        "rename": "names", "demand": "pledge", "waive": "pledge", "undo": "many", "redo": "many", "trial": "",
        "during": "call", "twin": "", "field_named": "name", "__contains__": "value", "__len__": "", "__iter__": "",
        "__eq__": "other", "__str__": "",
    },
}
CLASS_METHODS = (("Lots", "all_of"), ("Lots", "even"), ("Field", "free"))
PROPERTIES = {
    ("pinnedgaps.bags.lots", "Lots"): ("weights", "lots", "size", "things", "total"),
    ("pinnedgaps.twostate.fields", "Field"): ("size", "places", "ties"),
    ("pinnedgaps.use.desk", "Desk"): ("labels", "lines", "pledges", "changes"),
}
OUTSIDE = {"math": ("gcd", "lcm", "comb")}


class InterfaceTest(unittest.TestCase):
    def test_functions_are_defined_where_they_are_listed(self):
        for module_name, functions in FUNCTIONS.items():
            module = importlib.import_module(module_name)
            for name, parameters in functions.items():
                with self.subTest(name):
                    found = getattr(module, name)
                    self.assertEqual(found.__module__, module_name)
                    self.assertEqual(" ".join(inspect.signature(found).parameters), parameters)


    def test_methods_are_defined_in_their_class(self):
        for (module_name, class_name), methods in METHODS.items():
            found = getattr(importlib.import_module(module_name), class_name)
            self.assertEqual(found.__module__, module_name)
            for name, parameters in methods.items():
                with self.subTest(name):
                    method = vars(found)[name]
                    self.assertIs(isinstance(method, classmethod), (class_name, name) in CLASS_METHODS)
                    names = list(inspect.signature(getattr(method, "__func__", method)).parameters)
                    self.assertEqual(" ".join(names[1:]), parameters)

    def test_keywords(self):
        for name in ("undo", "redo"):
            many = inspect.signature(vars(Desk)[name]).parameters["many"]
            self.assertEqual([many.kind, many.default], [many.KEYWORD_ONLY, 1])

    def test_properties_cannot_be_assigned(self):
        for (module_name, class_name), names in PROPERTIES.items():
            found = getattr(importlib.import_module(module_name), class_name)
            for name in names:
                with self.subTest(name):
                    self.assertIsInstance(vars(found)[name], property)
                    self.assertIsNone(vars(found)[name].fset)


class ReadmeTest(unittest.TestCase):
    def test_examples(self):
        found = doctest.testfile(str(ROOT / "README.md"), module_relative=False)
        self.assertEqual(found.failed, 0)
        self.assertGreater(found.attempted, 5)


class FilesTest(unittest.TestCase):
    def each_node(self):
        for path in FILES:
            for node in ast.walk(ast.parse(path.read_text())):
                yield path, node

    def test_folders_hold_plain_files_alone(self):
        for path in PACKAGE.rglob("*"):
            if "__pycache__" not in path.parts:
                self.assertTrue(path.is_dir() or path.suffix == ".py", path)
                self.assertTrue(path.is_file() or (path / "__init__.py").is_file(), path)

    def test_characters_and_lengths(self):
        for path in FILES:
            text = path.read_text()
            self.assertTrue(all(" " <= sign <= "~" or sign == "\n" for sign in text), path)
            self.assertLess(len(text.splitlines()), 400, path)
            self.assertLessEqual(max(map(len, text.splitlines())), 120, path)

    def test_python_gives_no_warning(self):
        with warnings.catch_warnings():
            warnings.simplefilter("error")
            for path in FILES:
                compile(path.read_text(), str(path), "exec")

    def test_functions_have_at_most_40_lines(self):
        for path, node in self.each_node():
            if isinstance(node, ast.FunctionDef):
                self.assertLessEqual(node.end_lineno - node.lineno + 1, 40, (path, node.name))

    def test_imports(self):
        for path, node in self.each_node():
            self.assertNotIsInstance(node, ast.Import, path)
            if isinstance(node, ast.ImportFrom):
                self.assertEqual(node.level, 0, path)
                self.assertTrue(all(part.asname is None for part in node.names), path)
                if not node.module.startswith("pinnedgaps."):
                    for part in node.names:
                        self.assertIn(part.name, OUTSIDE.get(node.module, ()), path)

    def test_no_floats(self):
        for path, node in self.each_node():
            self.assertNotIsInstance(node, ast.Div, path)
            if isinstance(node, ast.Constant):
                self.assertNotIsInstance(node.value, (float, complex), path)

    def test_what_the_language_leaves_out(self):
        barred = (ast.Global, ast.AsyncFunctionDef, ast.Await, ast.TryStar, ast.GeneratorExp)
        for path, node in self.each_node():
            self.assertNotIsInstance(node, barred, path)
