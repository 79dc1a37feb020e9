import ast
import inspect
import importlib
import pathlib
import unittest

ROOT = pathlib.Path(__file__).resolve().parent.parent

FUNCTIONS = {
    "rows": "degrees(row) is_point(row, value) long_error(value) needed(row) row_error(value) sizes(row) "
            "told(row, point) values(row, point)",
    "polys": "constant(many, number) minus(one, other) plus(one, other) scaled(poly, number) times(one, other) "
             "unknown(many, index) value_of(poly, numbers)",
    "sames": "parting(one, other) polys(row) same(one, other)",
    "rates": "forward(row) hangs(row) is_forward(row, value) rate(poly, unknown) rate_poly(row, end, unknown) "
             "rates_at(row, point) rates_fed(row, other, point) second(row, end, one, other) spread(poly)",
    "backward": "backward(row) is_backward(row, value)",
    "boxes": "by_rates(row, box) corner(row, end, box) growth(row, box) is_box(row, value) middle(box) "
             "parted(box, unknown, number) point_count(box) ranges(row, box) rate_ranges(row, box)",
    "tapes": "moved(tape, filling) same_moved(one, other) sign(tape) taken_back(tape) tape_error(value) "
             "tape_polys(tape) tape_row(tape) unlike_filling(one, other)",
    "clean": "clean_tape(row) is_clean(row, value)",
    "fitting": "beside(one, other) fed(one, other) renamed(row, inputs, order) slim(row)",
    "texts": "poly_text(poly) read_row(value) row_text(row)",
    "sweeps": "kept(row) seconds_at(row, end, point) swept(row, point, weights) swept_by(row, some, weights)",
    "straight": "is_plain(row) is_straight(row) row_of(inputs, table, column) table_of(row)",
    "reach": "determinant(row) hinders(row, wish, value) hindrance(row, wish) origin(row, wish) rank(row) "
             "relations(row) undone(row)",
    "places": "in_place(row) in_place_holds(row, value)",
    "holding": "are_slots(row, order, value) best_counted(row) best_order(row) held(row, value) "
               "is_order(row, value) is_wood(row) least_load(row) load(row, value) orders_counted(row) "
               "slots(row, value)",
    "groups": "both_groups(pattern) group_count(pattern, number) groups(pattern) is_both(pattern, value) "
              "is_grouping(pattern, value) rates_by(row, grouping, point) squeezed(row, grouping, point) "
              "together(pattern)",
    "patterns": "fed_pattern(one, other) pattern_error(value) pattern_of(row) turned_pattern(pattern)",
    "keeping": "extended(row) extended_holds(row, value) forgets(row, shift) forgotten(row) kept_weights(row) "
               "tells_back(row, weights)",
    "leasts": "greatest(row, end, box) is_least_paper(row, end, box, value) least(row, end, box) "
              "least_paper(row, end, box) signs(row, end, box)",
    "lifts": "bare(row, end) endless(row, end, prime) endless_holds(row, end, prime, value) "
             "lifted(row, end, prime, power, nought)",
    "matches": "blocks(pattern) cover(pattern) is_cover(pattern, value) is_pairs(pattern, value) pairs(pattern)",
    "moments": "best_plan(costs, room) gone(rounds, room, value) least_cost(costs, room) least_room(costs, most) "
               "plan_cost(costs, room, value) plan_error(rounds, room, value) run_rounds(row, point, rounds) "
               "swept_rounds(row, point, weights, room, value)",
    "pebbles": "acts_needed(spots, pebbles) farthest(pebbles, acts) is_way(spots, pebbles, value) "
               "pebble_way(spots, pebbles) pebbles_needed(spots) ways_counted(spots, pebbles)",
    "points": "lifted_point(row, end, prime, power, point, index) rough(row, end, prime) smooth(row, end, prime) "
              "smooth_count(row, end, prime, power)",
    "rounds": "after(row, times) after_rests(row, times, modulus) alike_from(row, other) comes_back(row) "
              "gathered(row, times) run_after(row, point, times) settles(row)",
    "turned": "is_turned(row, value) turned(row) turned_counts(row)",
    "moduli": "count_by(row, end, parts) nought_at(row, end, prime, power, number) "
              "nought_count(row, end, prime, power) noughts(row, end, prime, power)",
}

# For each class its properties, and the methods that stand in its own body.
CLASSES = {
    ("desks", "Desk"): (
        "inputs steps ends version",
        "__init__(self, value) __len__(self) __contains__(self, x) __getitem__(self, at) __iter__(self) row(self) "
        "told(self, point) rates(self, name, point) poly(self, name) add(self, step) put(self, number, step) "
        "drop(self) label(self, name, number) unlabel(self, name) undo(self) redo(self) batch(self, edits) "
        "attempt(self, work) news(self) copy(self) __eq__(self, other) __str__(self)"),
    ("desks", "KeptDesk"): ("kept", "__init__(self, value, names) copy(self) __str__(self)"),
    ("shells", "Shell"): ("", "__init__(self) say(self, line)"),
}


def parted(told):
    """Return the pairs (name, arguments) of such a text."""
    return [tuple(one[:-1].split("(")) for one in told.replace(") ", ")|").split("|")]


class InterfaceTest(unittest.TestCase):

    def test_each_function_is_defined_in_its_file_with_its_arguments(self):
        for module, told in FUNCTIONS.items():
            tree = ast.parse((ROOT / "rowsback" / (module + ".py")).read_text("utf-8"))
            found = {node.name: node for node in tree.body if isinstance(node, ast.FunctionDef)}
            held = importlib.import_module("rowsback." + module)
            for name, arguments in parted(told):
                self.assertIn(name, found, module)
                self.assertEqual(ast.unparse(found[name].args), arguments, name)
                function = getattr(held, name)
                self.assertEqual(function.__module__, "rowsback." + module)
                for parameter in inspect.signature(function).parameters.values():
                    self.assertEqual(parameter.kind, parameter.POSITIONAL_OR_KEYWORD)
                    self.assertIs(parameter.default, parameter.empty)

    def test_each_class_is_defined_in_its_file_with_its_methods(self):
        for (module, name), (properties, methods) in CLASSES.items():
            tree = ast.parse((ROOT / "rowsback" / (module + ".py")).read_text("utf-8"))
            body = [node for node in tree.body if isinstance(node, ast.ClassDef) and node.name == name][0].body
            found = {node.name: node for node in body if isinstance(node, ast.FunctionDef)}
            held = getattr(importlib.import_module("rowsback." + module), name)
            self.assertEqual(held.__module__, "rowsback." + module)
            for one in properties.split():
                self.assertIsInstance(vars(held)[one], property)
            for method, arguments in parted(methods):
                self.assertIn(method, vars(held))
                self.assertEqual(ast.unparse(found[method].args), arguments, method)

    def test_errors_are_defined_in_their_file(self):
        tree = ast.parse((ROOT / "rowsback" / "errors.py").read_text("utf-8"))
        self.assertEqual(len([node for node in tree.body if isinstance(node, ast.ClassDef)]), 24)


if __name__ == "__main__":
    unittest.main()
