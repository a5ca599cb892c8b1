import unittest

from tacet.census import count_all, tree_census
from tacet.deciding import decide
from tacet.errors import TooLarge
from tacet.evidence import shows
from tacet.machines import STOP, parse, text
from tacet.normal import root, tree
from tacet.tapes import BLANK, ones, run
from tests.samples import Numbers, some_machines

TWO = parse("1RB1LB_1LA1RZ")
OTHER_TWO = parse("0RB1RZ_1LA1RB")
SWEEP = parse("1RB1LA_1LA1RB")
MARKS = parse("1RA1RZ")
ERASES = parse("0RZ1RZ")
ERASES_LATER = parse("0RB0RZ_0LZ0RZ")
LOOP = ("loop", 0, 1, True)


def plain_count(machines, evidences):
    """The census, in the words of the document."""
    stops, runs, others = 0, 0, 0
    best = [(0, ""), (0, "")]
    for machine, evidence in zip(machines, evidences):
        shown = "" if evidence is None else shows(machine, evidence)
        stops, runs, others = stops + (shown == "stops"), runs + (shown == "runs"), others + (shown == "")
        if shown == "stops":
            for at, value in enumerate((evidence[1], ones(run(machine, BLANK, evidence[1])[0]))):
                if best[at][1] == "" or value > best[at][0]:
                    best[at] = (value, text(machine))
    return (len(machines), stops, runs, others, best[0][0], best[1][0], best[0][1], best[1][1])


class CountAll(unittest.TestCase):
    def test_the_eight_values(self):
        machines = [root(2, 2), TWO, MARKS, OTHER_TWO, SWEEP]
        evidences = [("stop", 1), ("stop", 6), LOOP, ("stop", run(OTHER_TWO, BLANK, 50)[1]), None]
        expected = (5, 3, 1, 1, 6, 4, "1RB1LB_1LA1RZ", "1RB1LB_1LA1RZ")
        self.assertEqual(count_all(machines, evidences), expected)
        self.assertEqual(count_all(machines=machines, evidences=evidences), expected)

    def test_the_longest_and_the_fullest_are_others(self):
        machines = [parse("1RB1RZ_1LB0RC_1LC1LA"), parse("1RB1RZ_0RC1RB_1LC1LA")]
        evidences = [("stop", run(machine, BLANK, 50)[1]) for machine in machines]
        self.assertEqual(
            count_all(machines, evidences), (2, 2, 0, 0, 21, 6, "1RB1RZ_1LB0RC_1LC1LA", "1RB1RZ_0RC1RB_1LC1LA")
        )
        self.assertEqual(count_all(machines[::-1], evidences[::-1])[4:], count_all(machines, evidences)[4:])

    def test_no_machines(self):
        self.assertEqual(count_all([], []), (0, 0, 0, 0, 0, 0, "", ""))

    def test_no_machine_that_stops(self):
        self.assertEqual(count_all([MARKS, SWEEP], [LOOP, None]), (2, 0, 1, 1, 0, 0, "", ""))
        self.assertEqual(count_all([TWO, TWO], [None, None]), (2, 0, 0, 2, 0, 0, "", ""))

    def test_machines_that_stop_with_blank_tapes_only(self):
        self.assertEqual(run(ERASES_LATER, BLANK, 9), ((STOP, 0, 0, ()), 2))
        machines, evidences = [MARKS, ERASES, ERASES_LATER, ERASES], [LOOP, ("stop", 1), ("stop", 2), ("stop", 1)]
        expected = (4, 3, 1, 0, 2, 0, "0RB0RZ_0LZ0RZ", "0RZ1RZ")
        self.assertEqual(count_all(machines, evidences), expected)
        self.assertEqual(count_all([ERASES], [("stop", 1)]), (1, 1, 0, 0, 1, 0, "0RZ1RZ", "0RZ1RZ"))

    def test_the_first_of_several(self):
        first, second, third = parse("1RZ0RZ"), parse("1LZ0RZ"), parse("1LZ1RZ")
        for machines in ([first, second, third], [third, first, second], [second, second, first]):
            name = text(machines[0])
            self.assertEqual(count_all(machines, [("stop", 1)] * 3), (3, 3, 0, 0, 1, 1, name, name))

    def test_evidence_that_shows_nothing(self):
        # It is the evidence that decides, and not what the machine does.
        machines = [TWO, TWO, MARKS, MARKS, TWO]
        evidences = [("stop", 5), LOOP, ("stop", 1), ("loop", 0, 1, False), ("back", 20)]
        self.assertEqual(count_all(machines, evidences), (5, 0, 0, 5, 0, 0, "", ""))
        self.assertEqual(
            count_all(machines + [TWO], evidences + [("stop", 6)]),
            (6, 1, 0, 5, 6, 4, "1RB1LB_1LA1RZ", "1RB1LB_1LA1RZ"),
        )

    def test_in_the_words_of_the_document(self):
        numbers = Numbers(1)
        for _ in range(6):
            machines = some_machines(numbers.below(1000), 1)
            evidences = [
                numbers.pick([decide(machine), decide(machine), None, ("stop", 1 + numbers.below(3))])
                for machine in machines
            ]
            self.assertEqual(count_all(machines, evidences), plain_count(machines, evidences))

    def test_the_counts_of_two_lists_joined_are_the_sums(self):
        machines = some_machines(2, 2)
        evidences = [decide(machine) for machine in machines]
        whole = count_all(machines, evidences)
        for cut in (0, 1, 10, len(machines)):
            parts = [count_all(machines[:cut], evidences[:cut]), count_all(machines[cut:], evidences[cut:])]
            for at in range(4):
                self.assertEqual(whole[at], parts[0][at] + parts[1][at])
            for at in (4, 5):
                self.assertEqual(whole[at], max(parts[0][at], parts[1][at]))


class TreeCensus(unittest.TestCase):
    def test_one_state(self):
        for symbols in (2, 3, 4):
            name = "1RZ" * symbols
            self.assertEqual(tree_census(1, symbols, 50, 1000), (3, 1, 2, 0, 1, 1, name, name))

    def test_two_states(self):
        expected = (61, 19, 42, 0, 6, 4, "0RB1RZ_1LA1RB", "1RB1LB_1LA1RZ")
        self.assertEqual(tree_census(2, 2, 50, 1000), expected)
        self.assertEqual(tree_census(states=2, symbols=2, count=50, most=61), expected)

    def test_three_states(self):
        # The longest run takes 21 steps, and at most 6 cells are not blank.
        found = tree_census(3, 2, 50, 10000)
        self.assertEqual(found[:6], (5417, 1772, 3645, 0, 21, 6))
        self.assertEqual(run(parse(found[6]), BLANK, 100)[1], 21)
        self.assertEqual(ones(run(parse(found[7]), BLANK, 100)[0]), 6)

    def test_it_counts_the_tree(self):
        for states, symbols, count in ((1, 2, 0), (2, 2, 0), (2, 2, 1), (2, 2, 3), (1, 3, 50), (2, 2, 7)):
            machines = tree(states, symbols, count, 1000)
            evidences = [decide(machine) for machine in machines]
            self.assertEqual(tree_census(states, symbols, count, 1000), plain_count(machines, evidences))

    def test_too_large(self):
        for size, many in (((1, 2), 3), ((1, 4), 3), ((2, 2), 61)):
            self.assertEqual(tree_census(*size, 50, many)[0], many)
            for most in (1, many - 1):
                with self.assertRaises(TooLarge):
                    tree_census(*size, 50, most)
        with self.assertRaises(TooLarge):
            tree_census(4, 4, 50, 100)


class Calls(unittest.TestCase):
    def test_no_argument_is_modified(self):
        machines, evidences = [TWO, MARKS], [("stop", 6), None]
        for _ in range(2):
            self.assertEqual(count_all(machines, evidences)[:4], (2, 1, 0, 1))
        self.assertEqual((machines, evidences), ([TWO, MARKS], [("stop", 6), None]))


if __name__ == "__main__":
    unittest.main()
