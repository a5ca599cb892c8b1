"""The files of the package: what stands where, and the simple ones of the language rules."""

import ast
import importlib
import inspect
import pathlib
import unittest

FOLDER = pathlib.Path(__file__).resolve().parent.parent / "tacet"

# A star stands before the arguments that are passed by keyword only.
INTERFACE = {
    "errors": {"TacetError": None, "TooLarge": None, "Stopped": None, "BadText": None, "BadNames": None},
    "machines": {
        "is_machine": ["value"], "text": ["machine"], "parse": ["line"], "mirrored": ["machine"],
        "renamed": ["machine", "states", "symbols"],
    },
    "tapes": {
        "fits": ["machine", "configuration"], "symbol_at": ["configuration", "place"],
        "step": ["machine", "configuration"], "run": ["machine", "configuration", "count"],
        "mirrored_tape": ["configuration"], "shifted": ["configuration", "by"], "ones": ["configuration"],
    },
    "normal": {
        "normal_form": ["machine", "count"], "root": ["states", "symbols"], "children": ["machine", "count"],
        "tree": ["states", "symbols", "count", "most"],
    },
    "records": {
        "places": ["machine", "count"], "records": ["machine", "count", "*right"], "used": ["machine", "count"],
    },
    "leaps": {
        "to_runs": ["configuration"], "from_runs": ["tape"], "leap": ["machine", "tape"],
        "leaps": ["machine", "tape", "count"],
    },
    "blocks": {"cross": ["machine", "state", "index", "block"], "crossings": ["machine", "length", "count"]},
    "loops": {
        "is_loop": ["machine", "first", "second", "*right"], "find_loop": ["machine", "count"],
        "far": ["machine", "loop", "steps"],
    },
    "backward": {
        "level": ["machine", "depth"], "is_dead_end": ["machine", "depth"], "find_dead_end": ["machine", "depth"],
    },
    "closed": {
        "is_automaton": ["value", "symbols"], "is_right": ["machine", "value"], "close": ["machine", "left", "right"],
        "reads": ["machine", "closed_set", "configuration"],
    },
    "automata": {
        "gram": ["count", "symbols"], "plain_automata": ["count", "symbols"], "product": ["first", "second"],
        "find_grams": ["machine", "count"], "find_small": ["machine", "count"],
    },
    "shapes": {
        "is_shape": ["machine", "value"], "shape_tape": ["shape", "number"], "has_shape": ["machine", "start", "shape"],
    },
    "growing": {"find_shape": ["machine", "count"]},
    "evidence": {
        "is_evidence": ["value"], "shows": ["machine", "evidence"], "evidence_text": ["evidence"],
        "read_evidence": ["line"], "mirrored_evidence": ["evidence"],
    },
    "deciding": {"decide": ["machine"]},
    "census": {
        "count_all": ["machines", "evidences"], "tree_census": ["states", "symbols", "count", "most"],
    },
}
CONSTANTS = {
    "machines": {"MOST_STATES": 4, "MOST_SYMBOLS": 4, "STOP": -1},
    "tapes": {"MOST_CELLS": 10000, "BLANK": (0, 0, 0, ())},
    "leaps": {"MOST_RUNS": 1000},
    "blocks": {"MOST_BLOCK": 6},
    "loops": {"MOST_LOOK": 2000},
    "backward": {"MOST_DEPTH": 20, "MOST_PARTIALS": 300},
    "closed": {"MOST_ROWS": 64, "MOST_ELEMENTS": 3000},
    "automata": {"MOST_GRAM": 5},
    "shapes": {"MOST_REPEATS": 2},
}
STARS = {inspect.Parameter.POSITIONAL_OR_KEYWORD: "", inspect.Parameter.KEYWORD_ONLY: "*"}
LIBRARY = ("heapq", "math", "itertools", "collections", "__future__")


def sources():
    return sorted(FOLDER.rglob("*.py"))


class Interface(unittest.TestCase):
    def test_each_name_is_defined_in_its_own_file(self):
        for file, names in INTERFACE.items():
            module = importlib.import_module("tacet." + file)
            for name, arguments in names.items():
                with self.subTest(file=file, name=name):
                    self.assertEqual(getattr(module, name).__module__, "tacet." + file)

    def test_arguments_have_the_names_and_the_order_of_the_interface(self):
        for file, names in INTERFACE.items():
            module = importlib.import_module("tacet." + file)
            for name, arguments in names.items():
                if arguments is None:
                    continue
                with self.subTest(file=file, name=name):
                    found = inspect.signature(getattr(module, name)).parameters.values()
                    self.assertEqual([STARS[one.kind] + one.name for one in found], arguments)
                    self.assertEqual({one.default for one in found}, {inspect.Parameter.empty})

    def test_constants(self):
        for file, names in CONSTANTS.items():
            module = importlib.import_module("tacet." + file)
            for name, value in names.items():
                with self.subTest(file=file, name=name):
                    self.assertEqual(repr(getattr(module, name)), repr(value))


class Files(unittest.TestCase):
    def test_the_folder_holds_source_files_only(self):
        others = [
            path for path in FOLDER.rglob("*")
            if path.is_file() and path.suffix != ".py" and "__pycache__" not in path.parts
        ]
        self.assertEqual(others, [])
        self.assertTrue((FOLDER / "__init__.py").is_file())

    def test_lines(self):
        for path in sources():
            lines = path.read_bytes().split(b"\n")
            with self.subTest(path=path.name):
                self.assertLessEqual(len(lines) - 1, 399)
                self.assertLessEqual(max(len(line) for line in lines), 120)
                self.assertTrue(all(32 <= sign <= 126 for line in lines for sign in line))

    def test_functions_are_small(self):
        for path in sources():
            for node in ast.walk(ast.parse(path.read_text())):
                if isinstance(node, ast.FunctionDef):
                    with self.subTest(path=path.name, function=node.name):
                        self.assertLessEqual(node.end_lineno - node.lineno + 1, 40)

    def test_imports_come_from_the_package_or_the_allowed_library(self):
        for path in sources():
            for node in ast.walk(ast.parse(path.read_text())):
                if isinstance(node, ast.ImportFrom):
                    with self.subTest(path=path.name, module=node.module):
                        self.assertEqual(node.level, 0)
                        self.assertIn(node.module.split(".")[0], ("tacet",) + LIBRARY)
                elif isinstance(node, ast.Import):
                    self.assertEqual((path.name, [one.name for one in node.names]), ("__main__.py", ["sys"]))


if __name__ == "__main__":
    unittest.main()
