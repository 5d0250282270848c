"""Each name of the interface stands in its file, with its arguments; each file keeps plain rules of the language."""

import ast
import builtins
import importlib
import inspect
import unittest
from pathlib import Path

PACKAGE = Path(__file__).resolve().parent.parent / "boughswap"

FUNCTIONS = {
    "wholes": ["is_whole(thing, low, high)"],
    "ratios": [
        "fraction(top, bottom=1)", "is_fraction(thing)", "plus(one, other)", "minus(one, other)",
        "times(one, other)", "shared(one, other)",
    ],
    "polys": [
        "is_poly(thing)", "poly(numbers)", "added(one, other)", "taken_off(one, other)",
        "multiplied(one, other)", "raised(one, many)", "worth_at(one, x)", "ups(one)", "downs(one)",
        "weight_of(one)", "divided(one, other)", "whole_quotient(one, other)",
    ],
    "trees": ["is_tree(kind, thing)", "trees_in(kind, row)", "deep_of(kind, tree)", "leaf_tree(kind)"],
    "counts": ["how_many(kind, size)", "tree_at(kind, size, number)", "number_of(kind, tree)"],
    "racks": [
        "is_rack(thing)", "rack_poly(rack)", "has_trees(rack)", "is_thing(kind, rack, thing)",
        "trees_of(kind, rack, thing)", "put_beside(one, two)", "put_left(kind, one, two, thing)",
        "put_right(kind, one, two, thing)", "side_of(kind, one, two, thing)", "put_times(one, two)",
        "paired(kind, one, two, thing, other)", "unpaired(kind, one, two, thing)",
    ],
    "lists": [
        "how_many_things(kind, rack, size)", "thing_at(kind, rack, size, number)", "number_of_thing(kind, rack, thing)",
    ],
    "shapes": [
        "is_shape(thing)", "is_of(kind, shape, thing)", "flat_of(shape)", "flattened(kind, shape, thing)",
        "folded(kind, shape, thing)",
    ],
    "steps": [
        "can_do(kind, rack, step)", "rack_after(kind, rack, step)", "led_to(kind, rack, step, thing)",
        "led_back(kind, rack, step, thing)", "undone(kind, rack, step)", "opens_of(rack)", "closes_of(kind, rack)",
    ],
    "turnings": ["join(one, two)", "turn_beside(one, two)", "turn_spread(rack, turning)", "trimmed(turning)"],
    "patterns": [
        "is_pattern(kind, rack, thing)", "holes_of(pattern)", "filled(pattern, trees)",
        "matched(kind, rack, pattern, thing)",
    ],
    "tables": [
        "table_of(turning)", "by_table(kind, rows, thing)", "are_same(one, two)", "parting_thing(one, two)",
    ],
    "noughts": [
        "nought_of(kind)", "undoing_of(kind)", "grown_from_one(kind)", "grown_by(kind, rack, more)",
        "contrary_of(kind, rack)", "reach_to(kind, rack, many)",
    ],
    "decide": [
        "quotient_of(kind, one, two)", "are_alike(kind, one, two)", "parting_paper(kind, one, two)",
        "turning_between(kind, one, two)", "verdict_of(kind, one, two)",
    ],
    "judge": ["fault_of(kind, one, two, verdict)"],
    "classes": [
        "unit_of(kind)", "wanting(kind, one, two)", "power_of(rack, many)", "comes_again(kind, most)",
        "count_to(kind, rack, size)",
    ],
    "texts": [
        "kind_text(kind)", "read_kind(text)", "tree_text(kind, tree)", "read_tree(kind, text)", "rack_text(rack)",
        "read_rack(text)", "thing_text(kind, rack, thing)", "read_thing(kind, rack, text)", "step_text(step)",
        "read_step(text)", "steps_text(steps)", "read_steps(text)", "poly_text(one)", "read_poly(text)",
        "verdict_text(verdict)", "read_verdict(text)",
    ],
}

METHODS = {
    ("kinds", "Kind"): [
        "__init__(self, makers)", "__len__(self)", "__eq__(self, other)", "makers(self)", "name(self, maker)",
        "within(self, maker)", "number(self, name)", "poly(self)", "gap(self)", "first_leaf(self)", "first_wide(self)",
    ],
    ("turnings", "Turning"): [
        "__init__(self, kind, rack, steps)", "__len__(self)", "__eq__(self, other)", "steps(self)", "racks(self)",
        "run(self, thing)", "back(self, thing)", "turned(self)",
    ],
    ("desk", "Desk"): ["__init__(self)", "say(self, row)"],
}

LIBRARY = {
    "heapq": ["heappush", "heappop", "heapify", "heapreplace", "heappushpop"],
    "math": ["gcd", "lcm", "isqrt", "comb", "perm", "factorial"],
    "itertools": [
        "product", "combinations", "permutations", "chain", "accumulate", "pairwise", "islice", "zip_longest",
    ],
    "collections": ["defaultdict"],
}

BUILTINS = """
    len range enumerate zip min max sum abs sorted reversed int str bool bytes list tuple dict set frozenset
    isinstance ord repr any all divmod pow getattr hasattr setattr iter next map super
    Exception ValueError TypeError KeyError IndexError LookupError ZeroDivisionError ArithmeticError
    OverflowError RuntimeError NotImplementedError AttributeError StopIteration NotImplemented
    property staticmethod classmethod object
""".split()


def trees():
    return [(path, ast.parse(path.read_text())) for path in sorted(PACKAGE.glob("*.py"))]


class InterfaceTest(unittest.TestCase):

    def test_each_function_is_defined_in_its_file_with_its_arguments(self):
        for name, calls in FUNCTIONS.items():
            module = importlib.import_module("boughswap." + name)
            for call in calls:
                with self.subTest(call):
                    function = getattr(module, call.partition("(")[0])
                    self.assertEqual(call, function.__name__ + str(inspect.signature(function)))
                    self.assertEqual(module.__name__, function.__module__)

    def test_each_class_is_defined_in_its_file_with_its_methods_in_itself(self):
        for (name, word), calls in METHODS.items():
            module = importlib.import_module("boughswap." + name)
            own = getattr(module, word)
            self.assertEqual((module.__name__, word), (own.__module__, own.__name__))
            for call in calls:
                with self.subTest(call):
                    method = vars(own)[call.partition("(")[0]]
                    self.assertEqual(call, method.__name__ + str(inspect.signature(method)))


class LanguageTest(unittest.TestCase):

    def test_the_folder_holds_plain_python_files_alone(self):
        for path in PACKAGE.iterdir():
            if path.name != "__pycache__":
                self.assertRegex(path.name, r"\A[a-z0-9_]+\.py\Z")

    def test_sizes_and_signs(self):
        for path, tree in trees():
            text = path.read_bytes().decode("ascii")
            self.assertRegex(text, r"\A[ -~\n]*\Z", path.name)
            self.assertLessEqual(text.count("\n"), 399, path.name)
            self.assertLessEqual(max(map(len, text.split("\n"))), 120, path.name)
            for node in ast.walk(tree):
                if isinstance(node, ast.FunctionDef):
                    self.assertLessEqual(node.end_lineno - node.lineno + 1, 40, node.name)

    def test_imports(self):
        for path, tree in trees():
            for node in ast.walk(tree):
                self.assertNotIsInstance(node, ast.Import, path.name)
                if isinstance(node, ast.ImportFrom) and not node.module.startswith("boughswap."):
                    for alias in node.names:
                        self.assertIn(alias.name, LIBRARY[node.module], path.name)
                        self.assertIsNone(alias.asname, path.name)

    def test_builtins(self):
        barred = set(dir(builtins)) - set(BUILTINS)
        for path, tree in trees():
            for node in ast.walk(tree):
                if isinstance(node, ast.Name):
                    self.assertNotIn(node.id, barred, path.name)
                    if isinstance(node.ctx, ast.Store):
                        self.assertNotIn(node.id, dir(builtins), path.name)
                if isinstance(node, ast.arg):
                    self.assertNotIn(node.arg, dir(builtins), path.name)

    def test_neither_floats_nor_their_quotients(self):
        for path, tree in trees():
            for node in ast.walk(tree):
                self.assertNotIsInstance(node, ast.Div, path.name)
                if isinstance(node, ast.Constant):
                    self.assertNotIsInstance(node.value, (float, complex), path.name)


if __name__ == "__main__":
    unittest.main()
