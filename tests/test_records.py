import unittest

from tacet.machines import STOP, mirrored, parse
from tacet.records import places, records, used
from tests.samples import plain_history, some_machines

TWO = parse("1RB1LB_1LA1RZ")
COUNTS = (0, 1, 2, 3, 7, 40)


class Places(unittest.TestCase):
    def test_an_example(self):
        self.assertEqual(places(machine=TWO, count=6), [0, 1, 0, -1, -2, -1, 0])

    def test_no_steps(self):
        for machine in some_machines(1, 3):
            self.assertEqual(places(machine, 0), [0])

    def test_fewer_steps_than_the_run_has(self):
        whole = [0, 1, 0, -1, -2, -1, 0]
        for count in range(7):
            self.assertEqual(places(TWO, count), whole[:count + 1])

    def test_more_steps_than_it_takes_to_stop(self):
        for count in (6, 7, 8, 100, 5000):
            self.assertEqual(places(TWO, count), [0, 1, 0, -1, -2, -1, 0])
        self.assertEqual(places(parse("1RZ1RZ"), 5000), [0, 1])
        self.assertEqual(places(parse("0LZ1RZ"), 5000), [0, -1])

    def test_one_place_for_each_configuration(self):
        for machine in some_machines(2, 5):
            for count in COUNTS:
                expected = [place for _, place, _ in plain_history(machine, count)]
                self.assertEqual(places(machine, count), expected)

    def test_long_runs(self):
        self.assertEqual(places(parse("1RA1LA"), 5000), list(range(5001)))
        self.assertEqual(places(parse("0LA1RZ"), 5000), [-at for at in range(5001)])
        self.assertEqual(places(parse("1RB1RZ_1LA1RZ"), 2), [0, 1, 0])
        self.assertEqual(places(parse("0RB1RZ_0LA1RZ"), 5000), [0, 1] * 2500 + [0])
        # Somewhat more steps than the document allows, and more cells than a configuration may have.
        self.assertEqual(places(parse("1RA1LA"), 10500)[-1], 10500)

    def test_the_known_longest_run(self):
        found = places(parse("1RB1LB_1LA0LC_1RZ1LD_1RD0RA"), 5000)
        self.assertEqual(len(found), 108)
        self.assertEqual((found[0], found[1]), (0, 1))


class Records(unittest.TestCase):
    def both(self, line, count):
        machine = parse(line)
        return records(machine, count, right=True), records(machine, count, right=False)

    def test_examples(self):
        self.assertEqual(self.both("1RB1LB_1LA1RZ", 6), ([(1, 1, 1)], [(3, -1, 1), (4, -2, 0)]))
        self.assertEqual(self.both("1RB1LA_1LA1RB", 10), ([(1, 1, 1), (6, 2, 1)], [(3, -1, 0), (10, -2, 0)]))
        self.assertEqual(records(machine=TWO, count=3, right=False), [(3, -1, 1)])

    def test_no_steps(self):
        for machine in some_machines(3, 3):
            for right in (True, False):
                self.assertEqual(records(machine, 0, right=right), [])

    def test_the_step_that_stops_is_none(self):
        self.assertEqual(self.both("1RZ1RZ", 10), ([], []))
        self.assertEqual(self.both("1LZ1RZ", 10), ([], []))
        self.assertEqual(self.both("1RB1RZ_1RZ1RZ", 10), ([(1, 1, 1)], []))
        self.assertEqual(self.both("1LB1RZ_1LZ1RZ", 10), ([], [(1, -1, 1)]))
        for count in (5, 6, 7):
            self.assertEqual(self.both("1RB1LB_1LA1RZ", count)[0], [(1, 1, 1)])

    def test_the_place_0_counts_as_a_place_before(self):
        # The head comes back to the place 0 from each side, and this is no record.
        self.assertEqual(self.both("0RB0RB_0LA0LA", 10), ([(1, 1, 1)], []))
        self.assertEqual(self.both("0LB0LB_0RA0RA", 10), ([], [(1, -1, 1)]))
        right, left = self.both("0LB1RA_1RA0LB", 100)
        self.assertNotIn(0, [place for _, place, _ in right + left])

    def test_each_record_is_that_of_the_document(self):
        for machine in some_machines(4, 5):
            for count in COUNTS:
                seen = plain_history(machine, count)
                for right in (True, False):
                    expected = []
                    for number in range(1, len(seen)):
                        state, place, _ = seen[number]
                        before = [place for _, place, _ in seen[:number]]
                        beyond = place > max(before) if right else place < min(before)
                        if beyond and state != STOP:
                            expected.append((number, place, state))
                    self.assertEqual(records(machine, count, right=right), expected)

    def test_many_steps(self):
        sweep = [(number, number, 0) for number in range(1, 5001)]
        for count in (1, 2, 100, 4999, 5000):
            self.assertEqual(self.both("1RA1LA", count), (sweep[:count], []))
            left = [(number, -place, state) for number, place, state in sweep[:count]]
            self.assertEqual(self.both("1LA1LA", count), ([], left))

    def test_records_of_the_mirrored_machine(self):
        for machine in some_machines(5, 3):
            for right in (True, False):
                opposite = [(number, -place, state) for number, place, state in records(machine, 60, right=right)]
                self.assertEqual(records(mirrored(machine), 60, right=not right), opposite)

    def test_the_side_is_passed_by_keyword_only(self):
        with self.assertRaises(TypeError):
            records(TWO, 5, True)


class Used(unittest.TestCase):
    def test_an_example(self):
        expected = [(0, 0), (1, 0), (0, 1), (1, 1)]
        self.assertEqual([used(TWO, count) for count in range(7)], [expected[:k] for k in (0, 1, 2, 3, 3, 3, 4)])
        self.assertEqual(used(machine=TWO, count=5), expected[:3])

    def test_the_rule_that_stops_is_included(self):
        for count in (6, 7, 5000):
            self.assertEqual(used(TWO, count)[-1], (1, 1))
        self.assertEqual(used(parse("1RZ1RZ"), 1), [(0, 0)])

    def test_no_steps(self):
        for machine in some_machines(6, 2):
            self.assertEqual(used(machine, 0), [])

    def test_each_pair_once_in_the_order_of_first_use(self):
        for machine in some_machines(7, 8):
            for count in COUNTS:
                expected = []
                seen = plain_history(machine, count)
                for state, place, tape in seen[:count]:
                    pair = (state, tape.get(place, 0))
                    if state != STOP and pair not in expected:
                        expected.append(pair)
                self.assertEqual(used(machine, count), expected)

    def test_a_pair_that_comes_late(self):
        self.assertEqual(used(parse("1RB1LA_1LA1RB"), 5000), [(0, 0), (1, 0), (0, 1), (1, 1)])
        self.assertEqual(used(parse("1RA1RZ"), 5000), [(0, 0)])


class Calls(unittest.TestCase):
    def test_each_result_is_a_list_of_its_own(self):
        for ask in (
            lambda: places(TWO, 6), lambda: used(TWO, 6),
            lambda: records(TWO, 6, right=True), lambda: records(TWO, 6, right=False),
        ):
            first = ask()
            self.assertIs(type(first), list)
            expected = list(first)
            first.append("more")
            first[0] = "other"
            self.assertEqual(ask(), expected)

    def test_no_answer_depends_on_earlier_calls(self):
        def answers():
            return [
                (places(machine, 20), used(machine, 20), records(machine, 20, right=True))
                for machine in some_machines(8, 1)
            ]

        first = answers()
        places(TWO, 5000)
        records(parse("1LA1LA"), 5000, right=False)
        self.assertEqual(answers(), first)


if __name__ == "__main__":
    unittest.main()
