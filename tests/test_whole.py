"""What the document promises over the whole program."""

import ast
import copy
import unittest

from tacet.automata import find_grams, gram, plain_automata, product
from tacet.backward import level
from tacet.census import count_all, tree_census
from tacet.closed import close, is_automaton, is_right, reads
from tacet.deciding import decide
from tacet.errors import BadNames, BadText, Stopped, TacetError, TooLarge
from tacet.evidence import evidence_text, is_evidence, mirrored_evidence, read_evidence, shows
from tacet.growing import find_shape
from tacet.leaps import to_runs
from tacet.machines import is_machine, mirrored, parse, renamed, text
from tacet.normal import children, normal_form, root, tree
from tacet.records import places, records, used
from tacet.shapes import has_shape, is_shape, shape_tape
from tacet.tapes import BLANK, fits, run
from tests.samples import Numbers, some_machines, some_naming
from tests.test_package import sources

SWEEP = parse("1RB1LA_1LA1RB")
TWO = parse("1RB1LB_1LA1RZ")

# Calls that return lists.
LISTS = [
    lambda: tree(2, 2, 50, 100), lambda: children(root(2, 2), 5), lambda: children(SWEEP, 5), lambda: places(TWO, 50),
    lambda: places(TWO, 0), lambda: records(SWEEP, 50, right=True), lambda: records(SWEEP, 50, right=False),
    lambda: used(TWO, 50), lambda: level(TWO, 0), lambda: level(TWO, 3), lambda: level(SWEEP, 3), lambda: plain_automata(2, 3),
]


class Results(unittest.TestCase):
    def test_no_list_is_shared(self):
        for call in LISTS:
            first = call()
            kept = copy.deepcopy(first)
            first.append("more")
            first[:1] = []
            again = call()
            self.assertIsNot(again, first)
            self.assertEqual(again, kept)

    def test_no_argument_is_modified(self):
        numbers = Numbers(1)
        for machine in some_machines(2, 1):
            states, symbols = some_naming(numbers, machine)
            kept = copy.deepcopy((states, symbols))
            renamed(machine, states, symbols)
            self.assertEqual((states, symbols), kept)
            machines, evidences = [machine, TWO], [decide(machine), None]
            kept = copy.deepcopy((machines, evidences))
            count_all(machines, evidences)
            self.assertEqual((machines, evidences), kept)

    def test_the_results_are_tuples_throughout(self):
        for machine in some_machines(3, 1) + [SWEEP, TWO]:
            evidence = decide(machine)
            results = [
                machine, normal_form(machine, 50), mirrored(machine), run(machine, BLANK, 30), to_runs(run(machine, BLANK, 30)[0]),
                evidence, find_shape(machine, 100), find_grams(machine, 2), gram(2, len(machine[0])),
            ]
            if evidence is not None:
                results += [mirrored_evidence(evidence), read_evidence(evidence_text(evidence))]
            for result in results:
                self.assertNotIn("[", repr(result))
                self.assertNotIn("{", repr(result))

    def test_answers_are_true_or_false(self):
        closed_set = find_grams(SWEEP, 3)[0]
        for good, bad in [
            (is_machine(SWEEP), is_machine(list(SWEEP))), (fits(SWEEP, BLANK), fits(SWEEP, None)),
            (is_automaton(((0, 0),), 2), is_automaton((), 2)), (is_right(SWEEP, closed_set), is_right(TWO, closed_set)),
            (reads(SWEEP, closed_set, BLANK)[1], is_right(SWEEP, [])), (is_evidence(("stop", 1)), is_evidence(("stop", True))),
            (is_shape(SWEEP, (False, 0, ((), ()), ((1,),), 1)), is_shape(SWEEP, (False, 2, ((), ()), ((1,),), 1))),
            (has_shape(SWEEP, 6, (False, 1, ((), (1,)), ((1, 1),), 1)), has_shape(SWEEP, 7, (False, 1, ((), (1,)), ((1, 1),), 1))),
        ]:
            self.assertIs(good, True)
            self.assertIs(bad, False)

    def test_the_same_answers_in_any_order(self):
        machines = some_machines(4, 1)

        def answers(order):
            return {text(machine): (decide(machine), find_shape(machine, 60), level(machine, 1)) for machine in order}

        self.assertEqual(answers(machines), answers(machines[::-1]))


class Errors(unittest.TestCase):
    def test_each_derives_from_the_base_class_alone(self):
        for error in (TooLarge, Stopped, BadText, BadNames):
            self.assertEqual(error.__bases__, (TacetError,))
        self.assertEqual(TacetError.__bases__, (ValueError,))

    def test_each_has_its_class(self):
        for error, call in [
            (TooLarge, lambda: tree_census(2, 2, 50, 3)), (TooLarge, lambda: product(((0, 1),) + ((1, 0),) * 1, many(65))),
            (TooLarge, lambda: close(parse("1RC0LC_1RA0RZ_1LA1RB"), many(64), many(64))),
            (BadText, lambda: read_evidence("stop")), (BadText, lambda: parse("")), (BadNames, lambda: renamed(TWO, [1, 0], [0, 1])),
        ]:
            with self.assertRaises(TacetError) as caught:
                call()
            self.assertIs(caught.exception.__class__, error)


def many(rows):
    """An automaton that counts the cells that are not blank."""
    return tuple((row, (row + 1) % rows) for row in range(rows))


class MirroredAndNormal(unittest.TestCase):
    def test_normal_forms_of_the_tree(self):
        machines = tree(2, 2, 50, 100)
        for machine in machines:
            self.assertEqual(normal_form(machine, 50), machine)
            self.assertIn(normal_form(mirrored(machine), 50), machines)
            shown = shows(machine, decide(machine))
            self.assertEqual(shows(mirrored(machine), mirrored_evidence(decide(machine))), shown)

    def test_shapes_of_configurations(self):
        start, shape = find_shape(SWEEP, 100)
        self.assertEqual(shape_tape(shape, shape[4])[0], run(SWEEP, BLANK, start)[0][0])


class Sources(unittest.TestCase):
    def test_no_clock_no_random_numbers_no_files(self):
        for path in sources():
            for node in ast.walk(ast.parse(path.read_text())):
                if isinstance(node, ast.ImportFrom):
                    self.assertEqual(node.module.split(".")[0], "tacet", path.name)
                self.assertNotIsInstance(node, (ast.Import, ast.Global, ast.Lambda) if path.name != "census.py" else ast.Global)
                if isinstance(node, ast.Call) and isinstance(node.func, ast.Name):
                    self.assertNotIn(node.func.id, ("open", "input", "print", "hash", "id", "eval", "exec", "compile"))

    def test_no_floats(self):
        for path in sources():
            for node in ast.walk(ast.parse(path.read_text())):
                if isinstance(node, ast.Constant):
                    self.assertNotIsInstance(node.value, (float, complex), path.name)
                self.assertNotIsInstance(node, (ast.Div, ast.Set, ast.GeneratorExp), path.name)


if __name__ == "__main__":
    unittest.main()
