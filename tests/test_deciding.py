import contextlib
import unittest
from unittest import mock

from tacet import deciding
from tacet.automata import find_grams, find_small
from tacet.backward import find_dead_end
from tacet.deciding import decide
from tacet.evidence import evidence_text, is_evidence, mirrored_evidence, read_evidence, shows
from tacet.growing import find_shape
from tacet.loops import find_loop
from tacet.machines import STOP, mirrored, parse, renamed
from tacet.normal import normal_form, tree
from tacet.tapes import BLANK, run
from tests.samples import Numbers, all_machines, all_rules, long_run, some_machines, some_naming
from tests.test_backward import ENDS
from tests.test_evidence import LONG_STOPS, STOPS
from tests.test_shapes import SHAPES

SMALL = [(1, 2), (2, 2), (3, 2)]


# Loops with a second step of 149, 150, 151 and beyond, and closed sets with gram automata of 4 and 5 cells.
LATE = [
    "2LD3RZ3LB2RC_3LA1RC3LC0LD_2LB1LC3LD0RA_3RC2LB0LA2RD", "2RC1LA1RB3LB_1LA2RA2RD1LC_0RB2LD1RD2RD_0LD1LA3LC2LD",
    "2RD3RC3LB1RC_3RC0LB1LD3LB_2RA0LC2RC0RC_2LB1RC0LA0RC", "0RC0RA0LB_1RD1RD2LZ_1RB1LC1LD_1LC2RD0LC",
    "1RB1LC_1LA0RA_0LB1RZ", "1RB1RZ_1LC1RA_1LA0LC",
]
METHODS = ["find_loop", "find_dead_end", "find_grams", "find_small", "find_shape"]


def found_by(method, machine):
    """The evidence that one method alone finds, or None."""
    if method == "find_loop":
        loop = find_loop(machine, 300)
        return None if loop is None else ("loop", *loop)
    if method == "find_dead_end":
        depth = find_dead_end(machine, 6)
        return None if depth is None else ("back", depth)
    if method == "find_grams":
        grams = find_grams(machine, 5)
        return None if grams is None else ("closed", grams[0])
    if method == "find_small":
        closed_set = find_small(machine, 5 - len(machine[0]))
        return None if closed_set is None else ("closed", closed_set)
    growing = find_shape(machine, 1000)
    return None if growing is None else ("shape", *growing)


def small_machine(numbers, stopping):
    """A machine of up to 3 states and 2 symbols with so many stopping rules (or all, if it has fewer rules)."""
    states = 1 + numbers.below(3)
    rules = [rule for rule in all_rules(states, 2) if rule[2] != STOP]
    table = [numbers.pick(rules) for _ in range(2 * states)]
    for at in numbers.shuffled(range(2 * states))[:stopping]:
        table[at] = (numbers.below(2), 2 * numbers.below(2) - 1, STOP)
    return tuple(tuple(table[at:at + 2]) for at in range(0, 2 * states, 2))


class Decide(unittest.TestCase):
    def check(self, machine):
        """Check that a run says what the evidence shows, and return what that is."""
        evidence = decide(machine)
        if evidence is None:
            return ""
        self.assertIs(is_evidence(evidence), True)
        shown = shows(machine, evidence)
        after, steps = long_run(machine, BLANK, 2000)
        if after[0] == STOP:
            self.assertEqual((shown, evidence), ("stops", ("stop", steps)))
        else:
            self.assertEqual(shown, "runs")
        return shown

    def test_machines_that_stop(self):
        for line, steps in STOPS:
            self.assertEqual(decide(parse(line)), ("stop", steps))
            self.assertEqual(decide(machine=parse(line)), ("stop", steps))
        for line, steps in LONG_STOPS:
            self.assertIn(decide(parse(line)), (("stop", steps), None))
        seen = {}
        for machine in some_machines(1, 60):
            after, steps = run(machine, BLANK, 500)
            if after[0] == STOP:
                seen[steps] = True
                self.assertEqual(decide(machine), ("stop", steps))
        self.assertGreater(len(seen), 9)

    def test_machines_that_stop_within_500_steps_but_late(self):
        for line, steps in [
            ("2LB3LB1LD1LC_3RC1LA1RC0RB_1LB3RA0LA2RD_3LD3LC1RB1RZ", 421), ("3RD0LB3LA3RB_0RC1LA2RC3RA_2RD1RC1RZ2RA_0LA3LA2LA1LD", 468),
            ("1LC2RD0LA3LC_3RA1RC1RZ1LC_0RD2RB0RB1LD_3LA1RA3LC2LD", 469),
        ]:
            self.assertEqual(decide(parse(line)), ("stop", steps))
            self.assertEqual(decide(mirrored(parse(line))), ("stop", steps))

    def test_all_machines_of_the_trees(self):
        shown = []
        for size in SMALL:
            for machine in tree(*size, 50, 10000):
                evidence = decide(machine)
                shown.append(shows(machine, evidence))
                # Each one that stops does so within 50 steps.
                expected = "stops" if run(machine, BLANK, 50)[0][0] == STOP else "runs"
                self.assertEqual(shown[-1], expected)
        self.assertEqual((shown.count("stops"), shown.count("runs")), (1 + 19 + 1772, 2 + 42 + 3645))

    def test_small_machines_at_random(self):
        numbers = Numbers(2)
        for number in range(600):
            machine = small_machine(numbers, number % 4)
            shown = self.check(machine)
            self.assertNotEqual(shown, "")
            for other in (mirrored(machine), renamed(machine, *some_naming(numbers, machine))):
                self.assertEqual(shows(other, decide(other)), shown)
            for count in (50, 500):
                other = normal_form(machine, count)
                self.assertEqual(shows(other, decide(other)), shown)

    def test_all_machines_of_one_state(self):
        for machine in all_machines(1, 2):
            self.assertNotEqual(self.check(machine), "")
        for machine in all_machines(2, 2)[::40]:
            self.assertNotEqual(self.check(machine), "")

    def test_machines_without_a_loop(self):
        # The hardest ones of 3 states: each with all names of the states, mirrored or not, and with other unused rules.
        numbers = Numbers(3)
        hard = [
            machine for machine in tree(3, 2, 50, 10000)
            if run(machine, BLANK, 50)[0][0] != STOP and find_loop(machine, 150) is None
        ]
        self.assertEqual(len(hard), 92)
        kinds = [decide(machine)[0] for machine in hard]
        self.assertEqual((kinds.count("back"), kinds.count("closed")), (55, 37))
        for machine in hard:
            for order in ([0, 1, 2], [0, 2, 1]):
                other = renamed(machine, order, [0, 1])
                self.assertEqual(self.check(other), "runs")
                self.assertEqual(self.check(mirrored(other)), "runs")
            free = [[numbers.pick(all_rules(3, 2)) if rule == (1, 1, STOP) else rule for rule in row] for row in machine]
            self.assertEqual(self.check(tuple(tuple(row) for row in free)), "runs")

    def test_machines_for_which_something_is_found(self):
        counts = [0, 0, 0]
        for machine in some_machines(4, 12):
            found = [find_loop(machine, 150), find_dead_end(machine, 6), find_grams(machine, 3)]
            for index, one in enumerate(found):
                counts[index] += one is not None
            if found != [None, None, None]:
                self.assertEqual(self.check(machine), "runs")
        self.assertGreater(min(counts), 10)

    def test_each_method_alone(self):
        # As if the other ones found nothing.
        counts = [0] * len(METHODS)
        machines = some_machines(5, 5) + [parse(line) for line in LATE] + [parse(line) for line, _ in ENDS]
        machines = [machine for machine in machines if run(machine, BLANK, 2000)[0][0] != STOP]
        for method in METHODS:
            with contextlib.ExitStack() as stack:
                for other in METHODS:
                    if other != method:
                        stack.enter_context(mock.patch.object(deciding, other, lambda *_: None))
                for machine in machines:
                    expected = found_by(method, machine)
                    self.assertEqual(decide(machine), expected)
                    counts[METHODS.index(method)] += expected is not None
        self.assertGreater(min(counts), 10)

    def test_small_automata_and_shapes(self):
        for line in ("0RB0LA_1LA1RC_1RB1RZ", "0RB0LA_1RC1RZ_1LA1RB", "1RB1RZ_1LC1RA_0RA0LC", "1RB1LC_0LA0RB_1LA1RZ"):
            machine = parse(line)
            self.assertIs(find_shape(machine, 1000), None)
            self.assertEqual(decide(machine), ("closed", find_small(machine, 3)))
        for line, _, _ in SHAPES:
            self.assertEqual(self.check(parse(line)), "runs")
        for line in (
            "1RB2LA1RB_1LA1RZ1RA", "1RB1RZ0RB_2LB2LA0RA", "1RB2RB1RZ2LB_1LA3RB3RB2LA", "1RB3LB1RB3LB_2LA2LB1RA1RZ",
            "1RB1RZ0RB2LB_2LB1RA3RB2LA", "1RB1RZ3RB1RZ_2LB2RA0RB2LA",
        ):
            machine = parse(line)
            for one in (machine, mirrored(machine)):
                self.assertEqual(decide(one), ("shape",) + find_shape(one, 1000))
                self.assertEqual(self.check(one), "runs")

    def test_machines_that_no_method_decides(self):
        # It stops after 3,932,964 steps.
        self.assertIs(decide(parse("1RB2LA1RA1RA_1LB1LA3RB1RZ")), None)

    def test_any_machine(self):
        numbers = Numbers(6)
        answers = {"": 0, "stops": 0, "runs": 0}
        for machine in some_machines(7, 8):
            shown = self.check(machine)
            answers[shown] += 1
            for other in (mirrored(machine), renamed(machine, *some_naming(numbers, machine))):
                self.assertEqual(self.check(other), shown)
        self.assertGreater(min(answers["stops"], answers["runs"]), 30)

    def test_texts_and_mirrored_evidence(self):
        for machine in [parse(line) for line, _, _ in SHAPES] + some_machines(8, 3) + tree(3, 2, 50, 10000)[::50]:
            evidence = decide(machine)
            if evidence is not None:
                self.assertEqual(read_evidence(evidence_text(evidence)), evidence)
                self.assertEqual(shows(mirrored(machine), mirrored_evidence(evidence)), shows(machine, evidence))
                self.assertEqual(mirrored_evidence(mirrored_evidence(evidence)), evidence)


class Calls(unittest.TestCase):
    def test_the_same_evidence_again(self):
        machines = [parse(line) for line, _, _ in SHAPES] + some_machines(9, 2)
        first = [decide(machine) for machine in machines]
        self.assertEqual([decide(machine) for machine in machines[::-1]], first[::-1])


if __name__ == "__main__":
    unittest.main()
