import unittest

from tacet.loops import MOST_LOOK, far, find_loop, is_loop
from tacet.machines import STOP, mirrored, parse
from tacet.normal import tree
from tacet.records import records
from tacet.tapes import BLANK, run
from tests.samples import Numbers, long_run, plain_find_loop, plain_history, plain_is_loop, some_machines

TWO = parse("1RB1LB_1LA1RZ")
SWEEP = parse("1RB1LA_1LA1RB")
PLAIN_LOOPS = [
    ("1RA1RZ", (0, 1, True)), ("1LA1RZ", (0, 1, False)), ("0RB1RZ_0LA1RZ", (0, 2, True)),
    ("0LB1RZ_0RA1RZ", (0, 2, True)), ("1RB1RZ_0RA1RZ", (0, 2, True)), ("1LB1RZ_0LA1RZ", (0, 2, False)),
]


class IsLoop(unittest.TestCase):
    def check(self, machine, first, second, expected):
        """Check both sides, and those of the mirrored machine."""
        for right, value in ((True, expected[0]), (False, expected[1])):
            self.assertIs(is_loop(machine, first, second, right=right), value, (first, second, right))
            self.assertIs(is_loop(mirrored(machine), first, second, right=not right), value)

    def test_the_head_moves_on(self):
        machine = parse("1RA1RZ")
        for first, second in ((0, 1), (0, 2), (3, 4), (3, 9), (0, 2000), (1999, 2000)):
            self.check(machine, first, second, (True, False))
        self.assertIs(is_loop(machine=machine, first=0, second=1, right=True), True)
        # Without a mark on the way, the cells on the other side are equal, too, but the head goes to the right.
        self.check(parse("0RA0RZ"), 0, 5, (True, False))

    def test_the_head_stays(self):
        # There and back: the place is the same, so this is a loop on both sides.
        self.check(parse("0RB0RZ_0LA0RZ"), 0, 2, (True, True))
        self.check(parse("0RB0RZ_0LA0RZ"), 0, 1, (False, False))
        self.check(parse("1RB1RB_1LA1LA"), 0, 2, (False, False))
        self.check(parse("1RB1RB_1LA1LA"), 1, 3, (False, False))
        self.check(parse("1RB1RB_1LA1LA"), 2, 4, (True, True))

    def test_another_state(self):
        machine = parse("0RB0RZ_0RA0RZ")
        for distance in (1, 3, 5):
            self.check(machine, 0, distance, (False, False))
        for distance in (2, 4, 100):
            self.check(machine, 1, 1 + distance, (True, False))

    def test_another_symbol_under_the_head(self):
        # Back on a cell that was blank and is marked now.
        machine = parse("1RB0RB_0LA0LA")
        self.check(machine, 0, 2, (False, False))
        self.check(machine, 0, 4, (True, True))
        self.check(machine, 2, 4, (False, False))

    def test_cells_beyond_those_that_the_head_has_seen(self):
        # Each of these steps goes over a 1 in the state B, but there is one 1 less in front of the head.
        self.assertEqual([run(SWEEP, BLANK, steps)[0][:2] for steps in (4, 5, 6)], [(1, 0), (1, 1), (1, 2)])
        for first, second in ((4, 5), (4, 6), (5, 6)):
            self.check(SWEEP, first, second, (False, False))
        # Here the same steps go over blanks, with a mark far in front of the head, and then behind it.
        machine = parse("1RB0RZ_0RC0RZ_0RD0RZ_1LD0LD")
        seen = [run(machine, BLANK, steps)[0] for steps in (4, 5, 6)]
        self.assertEqual(seen, [(3, 2, 0, (1, 0, 0, 1)), (3, 1, 0, (1, 0, 1, 1)), (3, 0, 0, (1, 1, 1, 1))])
        for first, second in ((4, 5), (4, 6), (5, 6)):
            self.check(machine, first, second, (False, False))

    def test_sweeps_are_no_loops(self):
        for second in range(1, 120):
            for first in range(second):
                self.check(SWEEP, first, second, (False, False))

    def test_each_pair_is_one_or_none_in_the_words_of_the_document(self):
        answers = {}
        for machine in some_machines(1, 4):
            for second in (1, 2, 3, 5, 8, 12, 20):
                for first in range(second):
                    for right in (True, False):
                        value = is_loop(machine, first, second, right=right)
                        self.assertIs(value, plain_is_loop(machine, first, second, right))
                        answers[value, right] = answers.get((value, right), 0) + 1
        self.assertGreater(min(answers.values()), 100)

    def test_each_pair_of_small_machines(self):
        for machine in tree(2, 2, 50, 100):
            for second in range(1, 14):
                for first in range(second):
                    for right in (True, False):
                        value = is_loop(machine, first, second, right=right)
                        self.assertIs(value, plain_is_loop(machine, first, second, right))

    def test_a_machine_that_has_stopped(self):
        for first, second in ((0, 6), (0, 7), (5, 6), (6, 7), (3, 2000), (10, 20)):
            self.check(TWO, first, second, (False, False))
        for second in (1, 2, 2000):
            self.check(parse("0RZ0RZ"), 0, second, (False, False))
        # A machine that stops has no loop, at no time.
        for machine in some_machines(2, 3):
            if run(machine, BLANK, 40)[0][0] == STOP:
                for second in range(1, 42):
                    for first in (0, second // 2, second - 1):
                        self.check(machine, first, second, (False, False))

    def test_later_steps_and_multiples(self):
        numbers = Numbers(3)
        many = 0
        for machine in some_machines(4, 10):
            loop = find_loop(machine, 60)
            if loop is None:
                continue
            many += 1
            first, second, right = loop
            for _ in range(4):
                later = numbers.below(300)
                times = 1 + numbers.below(5)
                self.assertIs(is_loop(machine, first + later, second + later, right=right), True)
                self.assertIs(is_loop(machine, first, first + times * (second - first), right=right), True)
                last = first + later + times * (second - first)
                self.assertIs(is_loop(machine, first + later, last, right=right), True)
                self.assertIs(is_loop(mirrored(machine), first + later, last, right=not right), True)
        self.assertGreater(many, 50)

    def test_the_last_steps_that_may_be_looked_at(self):
        self.assertEqual(MOST_LOOK, 2000)
        for line, (first, second, right) in PLAIN_LOOPS:
            machine, distance = parse(line), second - first
            for late in (1998, 1999, 2000):
                self.assertIs(is_loop(machine, late - distance, late, right=right), True)
        self.check(SWEEP, 1000, 2000, (False, False))

    def test_a_second_step_that_is_not_later(self):
        for first, second in ((1, 1), (2, 1), (0, 0), (4, 2)):
            self.check(parse("0RA0RA"), first, second, (False, False))

    def test_the_side_is_passed_by_keyword_only(self):
        with self.assertRaises(TypeError):
            is_loop(TWO, 0, 1, True)


class FindLoop(unittest.TestCase):
    def test_plain_loops(self):
        for line, loop in PLAIN_LOOPS:
            for count in (2, 3, 300):
                self.assertEqual(find_loop(parse(line), count), loop)
        self.assertEqual(find_loop(machine=parse("1RA1RZ"), count=1), (0, 1, True))
        self.assertIs(find_loop(parse("1LA1RZ"), 300)[2], False)

    def test_none(self):
        for count in (1, 2, 60, 300):
            self.assertIs(find_loop(SWEEP, count), None)
            self.assertIs(find_loop(TWO, count), None)
            self.assertIs(find_loop(parse("1RB1LB_1LA0LC_1RZ1LD_1RD0RA"), count), None)

    def test_none_before_the_second_step(self):
        for machine in some_machines(5, 10):
            loop = find_loop(machine, 100)
            if loop is not None:
                self.assertEqual(find_loop(machine, loop[1]), loop)
                self.assertEqual(find_loop(machine, loop[1] + 1), loop)
                if loop[1] > 1:
                    self.assertIs(find_loop(machine, loop[1] - 1), None)

    def test_the_right_side_comes_first(self):
        # A loop on both sides: the head comes back to its place, and the cells are the same.
        for line in ("0RB0RZ_0LA0RZ", "0LB0RZ_0RA0RZ"):
            self.assertEqual(find_loop(parse(line), 300), (0, 2, True))

    def test_the_greatest_first_step_over_both_sides(self):
        many = 0
        for machine in some_machines(6, 30):
            loop = find_loop(machine, 60)
            if loop is None:
                continue
            first, second, right = loop
            later = [is_loop(machine, k, second, right=side) for k in range(first + 1, second) for side in (True, False)]
            self.assertFalse(any(later))
            # The left side is taken only if this is no loop on the right side.
            self.assertIs(is_loop(machine, first, second, right=True), right)
            on_left = is_loop(machine, first, second, right=False)
            self.assertTrue(right or on_left)
            many += right and on_left
        self.assertGreater(many, 3)

    def test_each_loop_is_that_of_the_document(self):
        found = []
        for machine in some_machines(7, 6):
            loop = find_loop(machine, 22)
            self.assertEqual(loop, plain_find_loop(machine, 22))
            found.append(loop if loop is None else loop[2])
        for value in (None, True, False):
            self.assertGreater(found.count(value), 10)

    def test_each_loop_of_small_machines(self):
        for states, symbols, count, limit in [(2, 2, 50, 26), (1, 3, 50, 12), (1, 4, 50, 8)]:
            for machine in tree(states, symbols, count, 1000):
                self.assertEqual(find_loop(machine, limit), plain_find_loop(machine, limit))
        for machine in tree(3, 2, 50, 10000)[::60]:
            self.assertEqual(find_loop(machine, 14), plain_find_loop(machine, 14))

    def test_machines_that_stop_have_none(self):
        for machine in tree(3, 2, 50, 10000)[::7]:
            if run(machine, BLANK, 50)[0][0] == STOP:
                self.assertIs(find_loop(machine, 60), None)

    def test_loops_that_begin_late_or_are_long(self):
        for line, loop in [
            ("1RB1LC_0RC1RZ_1LC0LA", (27, 28, False)), ("1RB1RZ_1LC0LC_1RC0LB", (20, 21, True)),
            ("1RB1RZ_1LC0RC_1RA0LC", (16, 21, False)), ("1RB0LA_0RC1RZ_1LC0LA", (0, 18, False)),
            ("1RB1RZ_0RC0LA_1LC0RB", (4, 18, True)), ("0RB1RZ_1LC1RC_0RC1RB", (7, 8, True)),
            ("1RB1RZ_0LB0LC_1LB1RZ", (4, 5, False)), ("0RB1RA_1LC0RA_1LA1RZ", (5, 11, True)),
        ]:
            machine = parse(line)
            self.assertEqual(plain_find_loop(machine, 30), loop)
            self.assertIs(find_loop(machine, loop[1] - 1), None)
            for count in (loop[1], loop[1] + 1, 300):
                self.assertEqual(find_loop(machine, count), loop)


class Far(unittest.TestCase):
    def test_one_state(self):
        for line, side in (("1RA1RZ", 1), ("1LA1RZ", -1)):
            loop = (0, 1, side == 1)
            for steps in (0, 1, 2, 5000, 10 ** 9, 10 ** 18 - 1, 10 ** 18):
                self.assertEqual(far(parse(line), loop, steps), (side * steps, 0))
        self.assertEqual(far(machine=parse("1RA1RZ"), loop=(3, 7, True), steps=10 ** 18), (10 ** 18, 0))

    def test_there_and_back(self):
        machine = parse("0RB0RZ_0LA0RZ")
        for right in (True, False):
            for steps in (0, 2, 10 ** 18):
                self.assertEqual(far(machine, (0, 2, right), steps), (0, 0))
            for steps in (1, 3, 10 ** 18 - 1):
                self.assertEqual(far(machine, (0, 2, right), steps), (1, 1))

    def test_within_the_run(self):
        many = 0
        for machine in some_machines(8, 10):
            loop = find_loop(machine, 80)
            if loop is None:
                continue
            many += 1
            seen = plain_history(machine, 400)
            for steps in list(range(2 * loop[1] + 3)) + [200, 399, 400]:
                if steps <= 400:
                    self.assertEqual(far(machine, loop, steps), (seen[steps][1], seen[steps][0]))
        self.assertGreater(many, 50)

    def test_one_more_round(self):
        numbers = Numbers(9)
        for machine in some_machines(10, 10):
            loop = find_loop(machine, 80)
            if loop is None:
                continue
            first, second, _ = loop
            seen = plain_history(machine, second)
            by = seen[second][1] - seen[first][1]
            for steps in (first, second, first + 1, 10 ** 17 + numbers.below(10 ** 9), 10 ** 18 - second):
                place, state = far(machine, loop, steps)
                self.assertEqual(far(machine, loop, steps + second - first), (place + by, state))
                times = numbers.below(10 ** 9)
                expected = (place + times * by, state)
                self.assertEqual(far(machine, loop, steps + times * (second - first)), expected)

    def test_other_loops_of_the_same_run(self):
        for machine in some_machines(11, 5):
            loop = find_loop(machine, 80)
            if loop is None:
                continue
            first, second, right = loop
            distance = second - first
            for other in ((first + 1, second + 1), (first + 9, second + 9), (first, first + 3 * distance)):
                for steps in (0, 1, first, second, 77, 10 ** 6 + 1, 10 ** 18):
                    self.assertEqual(far(machine, other + (right,), steps), far(machine, loop, steps))

    def test_long_runs(self):
        many = 0
        for machine in some_machines(12, 3):
            loop = find_loop(machine, 80)
            if loop is not None:
                many += 1
                state, place = long_run(machine, BLANK, 12345)[0][:2]
                self.assertEqual(far(machine, loop, 12345), (place, state))
        self.assertGreater(many, 15)

    def test_the_last_steps_that_may_be_looked_at(self):
        for line, (first, second, right) in PLAIN_LOOPS:
            machine, distance = parse(line), second - first
            late = (2000 - distance, 2000, right)
            for steps in (0, 1, 1999, 2000, 2001, 10 ** 18):
                self.assertEqual(far(machine, late, steps), far(machine, (first, second, right), steps))

    def test_places_beyond_the_bounds_of_configurations(self):
        machine = parse("1RB1RZ_1LC0RC_1RA0LC")
        place, _ = far(machine, (16, 21, False), 10 ** 18)
        self.assertEqual(place, run(machine, BLANK, 20)[0][1] - (10 ** 18 - 20) // 5)
        self.assertEqual(far(parse("1RB1RZ_0RA1RZ"), (0, 2, True), 10 ** 18 - 1), (10 ** 18 - 1, 1))
        self.assertEqual(far(parse("1LB1RZ_0LA1RZ"), (0, 2, False), 10 ** 18), (-10 ** 18, 0))


class Calls(unittest.TestCase):
    def test_no_answer_depends_on_earlier_calls(self):
        def answers():
            return [(find_loop(machine, 40), is_loop(machine, 2, 5, right=True)) for machine in some_machines(13, 1)]

        first = answers()
        find_loop(SWEEP, 300)
        is_loop(SWEEP, 3, 2000, right=False)
        far(parse("1RA1RZ"), (0, 1, True), 10 ** 18)
        self.assertEqual(answers(), first)

    def test_records_of_a_loop_repeat(self):
        # What a loop says of the places holds for the records, too.
        machine = parse("1RB1RZ_0RA1RZ")
        found = records(machine, 5000, right=True)
        for number in (10, 1000, 4999):
            self.assertEqual(found[number - 1][1:], far(machine, (0, 2, True), number))


if __name__ == "__main__":
    unittest.main()
