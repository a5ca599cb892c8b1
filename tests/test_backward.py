import unittest
from unittest import mock

from tacet import backward
from tacet.backward import MOST_DEPTH, MOST_PARTIALS, find_dead_end, is_dead_end, level
from tacet.errors import TooLarge
from tacet.machines import STOP, mirrored, parse, renamed
from tacet.tapes import BLANK, run, symbol_at
from tests.proofs import plain_level
from tests.samples import Numbers, plain_step, settled, some_configuration, some_machines, some_naming

TWO = parse("1RB1LB_1LA1RZ")
# The sizes of their levels up to the last one here.
JUST_SMALL = ("1RB1RZ1LB2LA_2RB0LB2RA1LA", [1, 3, 8, 16, 38, 72, 152, 300, 607])
JUST_LARGE = ("3RA1LZ3LB0RB_3LC3LZ0LC0LZ_2LA2LZ1RA1LA", [4, 10, 20, 34, 50, 78, 120, 189, 301])
# The first level that is empty.
ENDS = [
    ("0RA0RA", 0), ("0LB1RA_1LA1RB", 0), ("1RB1RZ_0RB0RB", 1), ("1RB1RZ_0LA0LZ", 4), ("0LB1LZ_0RZ1LC_1RA1RA", 5),
    ("0LB0RZ_1LB0LB_1RA0LD_1LA0RC", 4), ("1RB0RB_0LC0LZ_1LA1RB", 5), ("1LA1LA2RC_2LC1LA1RZ_1RZ0RB1LA", 6),
    ("1LD0RB_0RZ0LC_1LC0RA_1RB1LB", 7), ("0RB0RZ0RB_1LC2LC0RB_2LA0LA1RB", 8), ("0RB2RZ0RC_2LA0LA2RC_1LB2LZ1LZ", 9),
    ("1LB0LC_1RA1RC_0RZ0LB", 10), ("1RD2LA1RC_0LA2RZ1LA_2LC0LA2RB_1RB2LA0RB", 12), ("0RA1RA_0RZ0RD_1LB0LB_1LC1RD", 13),
]


def sizes(machine, depth):
    return [len(level(machine, number)) for number in range(depth + 1)]


class Level(unittest.TestCase):
    def test_the_level_0(self):
        self.assertEqual(level(TWO, 0), [(1, 0, (1,))])
        self.assertEqual(level(parse("1RZ0LZ"), 0), [(0, 0, (0,)), (0, 0, (1,))])
        self.assertEqual(level(parse("1RA0LA"), 0), [])
        machine = parse("1RA0LZ2RB_1RZ1RZ0LB_2RA2RZ2LZ")
        self.assertEqual(level(machine, 0), [(0, 0, (1,)), (1, 0, (0,)), (1, 0, (1,)), (2, 0, (1,)), (2, 0, (2,))])
        self.assertEqual(level(machine=machine, depth=0), level(machine, 0))

    def test_a_cell_is_added_at_both_ends(self):
        # Only the rule number 0 of the row 0 leads to the state 1: its head came from the left.
        machine = parse("0RB0RA_0RB0RZ")
        self.assertEqual(level(machine, 0), [(1, 0, (1,))])
        self.assertEqual(level(machine, 1), [(0, 0, (0, 1)), (1, 0, (0, 1))])
        self.assertEqual(level(mirrored(machine), 1), [(0, 1, (1, 0)), (1, 1, (1, 0))])
        # The new cell is the one in front, so the index stays 0.
        self.assertIn((1, 0, (0, 0, 1)), level(machine, 2))
        self.assertIn((1, 2, (1, 0, 0)), level(mirrored(machine), 2))

    def test_the_new_cell_is_in_the_cells(self):
        # One step to the right, and one back: the cell at which it began has the symbol that was written.
        machine = parse("1RB1RZ_0LA0LC_1RC1RC")
        self.assertEqual(level(machine, 0), [(0, 0, (1,))])
        self.assertEqual(level(machine, 1), [(1, 1, (1, 0))])
        self.assertEqual(level(machine, 2), [(0, 0, (0, 0))])
        machine = parse("1RB1RZ_1LA0LC_1RC1RC")
        self.assertEqual(level(machine, 2), [(0, 0, (0, 0))])

    def test_none_where_the_symbol_is_not_the_written_one(self):
        machine = parse("0RB1RZ_0LA0LC_1RC1RC")
        self.assertEqual(level(machine, 1), [(1, 1, (1, 0))])
        # The rule writes 0, where 1 was needed.
        self.assertEqual(level(machine, 2), [])
        machine = parse("0RB1RZ_1LC0LA_0LA1LA")
        self.assertEqual(level(machine, 1), [(1, 1, (1, 1)), (2, 1, (1, 0)), (2, 1, (1, 1))])
        # The rule number 0 of the row 0 would have to write the 1 in the first cell.
        self.assertEqual(level(machine, 2), [(1, 2, (1, 0, 0)), (1, 2, (1, 1, 0))])

    def test_each_one_once(self):
        # Both rules of the row 0 lead to the same partial configuration of the row 1, of which each is one.
        machine = parse("1RB1RB_0RZ0RZ")
        self.assertEqual(level(machine, 0), [(1, 0, (0,)), (1, 0, (1,))])
        self.assertEqual(level(machine, 1), [(0, 0, (0, 0)), (0, 0, (0, 1)), (0, 0, (1, 0)), (0, 0, (1, 1))])
        self.assertEqual(level(machine, 2), [])
        machine = parse("1LB1RA_0RA1RZ")
        self.assertEqual(level(machine, 1), [(0, 1, (1, 0))])
        self.assertEqual(level(machine, 2), [(0, 0, (1, 0))])
        for depth in range(8):
            for machine in some_machines(1, 2):
                try:
                    found = level(machine, depth)
                except TooLarge:
                    continue
                self.assertEqual(found, sorted(set(found)))

    def test_levels_of_machines_of_each_size(self):
        many = 0
        for machine in some_machines(2, 6):
            for depth in range(1, 5):
                found = plain_level(machine, depth)
                before = plain_level(machine, depth - 1)
                if found is not None:
                    self.assertEqual(level(machine, depth), found)
                    many += len(found) > len(before) > 0
        self.assertGreater(many, 200)

    def test_each_level_in_the_words_of_the_document(self):
        answers = [0, 0]
        for machine in some_machines(3, 2):
            for depth in (0, 1, 2, 3, 5, 8, 20):
                expected = plain_level(machine, depth)
                answers[expected is None] += 1
                if expected is None:
                    with self.assertRaises(TooLarge):
                        level(machine, depth)
                else:
                    self.assertEqual(level(machine, depth), expected)
        self.assertGreater(min(answers), 15)

    def test_runs_from_a_partial_configuration_stop(self):
        # Whatever stands in the other cells, the machine stops after one step more than the number of the level.
        numbers = Numbers(4)
        many = 0
        for machine in some_machines(5, 2):
            for depth in range(5):
                for state, index, cells in (plain_level(machine, depth) or [])[:30]:
                    tape = {at: numbers.below(len(machine[0])) for at in range(-9, 9)}
                    tape.update(enumerate(cells))
                    after, steps = run(machine, settled(state, index, tape), 100)
                    self.assertEqual((after[0], steps), (STOP, depth + 1))
                    many += 1
        self.assertGreater(many, 1000)

    def test_runs_that_stop_agree_with_the_levels(self):
        numbers = Numbers(6)
        many = 0
        for machine in some_machines(7, 6):
            passed = [some_configuration(numbers, machine)]
            while passed[-1][0] != STOP and len(passed) < 9:
                passed.append(plain_step(machine, passed[-1]))
            if passed[-1][0] != STOP:
                continue
            for depth, configuration in enumerate(passed[-2::-1]):
                try:
                    found = level(machine, depth)
                except TooLarge:
                    break
                state, place = configuration[:2]
                self.assertTrue(any(
                    state == partial_state and
                    all(symbol_at(configuration, place - index + at) == cell for at, cell in enumerate(cells))
                    for partial_state, index, cells in found
                ))
                many += 1
        self.assertGreater(many, 90)

    def test_too_large(self):
        self.assertEqual((MOST_DEPTH, MOST_PARTIALS), (20, 300))
        machine = parse(JUST_SMALL[0])
        self.assertEqual(sizes(machine, 7), JUST_SMALL[1][:8])
        for depth in (8, 9, 19, 20):
            with self.assertRaises(TooLarge):
                level(machine, depth)
        machine = parse(JUST_LARGE[0])
        self.assertEqual(sizes(machine, 7), JUST_LARGE[1][:8])
        for depth in (8, 9, 20):
            with self.assertRaises(TooLarge):
                level(machine, depth)

    def test_a_level_before_is_too_large(self):
        # With another bound, because a level of more than 300 with small levels behind it is rare.
        machine = parse("1RD2LA1RC_0LA2RZ1LA_2LC0LA2RB_1RB2LA0RB")
        many = [1, 3, 3, 6, 3, 3, 2, 2, 2, 1, 1, 1, 0]
        greatest = 6
        with mock.patch.object(backward, "MOST_PARTIALS", greatest):
            self.assertEqual(sizes(machine, 20), many + [0] * 8)
            self.assertEqual(find_dead_end(machine, 20), 12)
        with mock.patch.object(backward, "MOST_PARTIALS", greatest - 1):
            first = many.index(greatest)
            self.assertEqual(sizes(machine, first - 1), many[:first])
            for depth in range(first, 21):
                with self.assertRaises(TooLarge):
                    level(machine, depth)
                with self.assertRaises(TooLarge):
                    is_dead_end(machine, depth)
            self.assertIs(find_dead_end(machine, 20), None)

    def test_behind_an_empty_level_all_are_empty(self):
        for line, number in ENDS:
            machine = parse(line)
            found = sizes(machine, 20)
            self.assertEqual(found.index(0), number)
            self.assertEqual(found[number:], [0] * (21 - number))

    def test_the_deepest_level(self):
        machine = parse("0RB0RZ_0RA0RC_0RC0RC")
        self.assertEqual(sizes(machine, 20), [1] * 21)
        self.assertEqual(level(machine, 20), [(0, 0, (0,) * 20 + (1,))])
        self.assertEqual(level(machine, 19), [(1, 0, (0,) * 19 + (1,))])

    def test_mirrored_and_renamed(self):
        numbers = Numbers(8)
        for machine in some_machines(9, 2):
            states, symbols = some_naming(numbers, machine)
            for depth in range(4):
                try:
                    found = level(machine, depth)
                except TooLarge:
                    with self.assertRaises(TooLarge):
                        level(mirrored(machine), depth)
                    continue
                turned = sorted((s, len(cells) - 1 - index, cells[::-1]) for s, index, cells in found)
                self.assertEqual(level(mirrored(machine), depth), turned)
                named = sorted((states[s], index, tuple(symbols[x] for x in cells)) for s, index, cells in found)
                self.assertEqual(level(renamed(machine, states, symbols), depth), named)


class DeadEnds(unittest.TestCase):
    def test_ends(self):
        for line, number in ENDS:
            for machine in (parse(line), mirrored(parse(line))):
                stops = run(machine, BLANK, 100)[0][0] == STOP
                for depth in range(21):
                    self.assertIs(is_dead_end(machine, depth), depth >= number and not stops)
                    expected = number if depth >= number and not stops else None
                    self.assertEqual(find_dead_end(machine, depth), expected)
        self.assertIs(is_dead_end(machine=parse("0RA0RA"), depth=0), True)
        self.assertIs(find_dead_end(machine=TWO, depth=20), None)

    def test_no_machine_with_a_dead_end_stops(self):
        answers = [0, 0]
        for machine in some_machines(10, 60):
            number = find_dead_end(machine, 6)
            if number is not None:
                answers[number > 0] += 1
                self.assertNotEqual(run(machine, BLANK, 1000)[0][0], STOP)
        self.assertGreater(min(answers), 30)

    def test_a_machine_that_stops_within_these_steps(self):
        # Nothing leads to its stopping rule, but it is there from the beginning.
        machine = parse("1RZ0RB_0RB1RB")
        self.assertEqual(sizes(machine, 2), [1, 0, 0])
        for depth in range(21):
            self.assertIs(is_dead_end(machine, depth), False)
            self.assertIs(find_dead_end(machine, depth), None)
        # Here the level 1 is empty, and the machine stops after 1 step. Never does the one that is not in this state.
        self.assertEqual(find_dead_end(parse("1RB0RB_0RB1RZ"), 20), None)
        self.assertEqual(find_dead_end(parse("1RB1RZ_0RB0RB"), 20), 1)

    def test_a_stop_after_more_steps_than_the_depth(self):
        # A level that is not empty says nothing.
        machine = parse("1RB1LB_1LA1RZ")
        self.assertEqual(run(machine, BLANK, 100)[1], 6)
        for depth in range(6):
            self.assertNotEqual(level(machine, depth), [])
            self.assertIs(is_dead_end(machine, depth), False)

    def test_too_large_also_if_the_machine_stops(self):
        many = 0
        for machine in some_machines(11, 30):
            if run(machine, BLANK, 20)[0][0] == STOP and plain_level(machine, 9) is None:
                many += 1
                with self.assertRaises(TooLarge):
                    is_dead_end(machine, 20)
                self.assertIs(find_dead_end(machine, 20), None)
                if many == 20:
                    break
        self.assertEqual(many, 20)
        for line, _ in (JUST_SMALL, JUST_LARGE):
            self.assertIs(is_dead_end(parse(line), 7), False)
            with self.assertRaises(TooLarge):
                is_dead_end(parse(line), 8)

    def test_the_least_number(self):
        found = []
        for machine in some_machines(12, 40):
            number = find_dead_end(machine, 5)
            found.append(number)
            for depth in range(6):
                try:
                    value = is_dead_end(machine, depth)
                except TooLarge:
                    value = False
                self.assertIs(value, number is not None and depth >= number)
                least = number if number is not None and number <= depth else None
                self.assertEqual(find_dead_end(machine, depth), least)
        for number in (None, 0, 1, 2):
            self.assertGreater(found.count(number), 3)

    def test_a_level_that_is_just_too_large(self):
        machine = parse("1LD0RB_0RZ0LC_1LC0RA_1RB1LB")
        many = sizes(machine, 7)
        for limit in range(1, max(many) + 2):
            with mock.patch.object(backward, "MOST_PARTIALS", limit):
                self.assertEqual(find_dead_end(machine, 20), 7 if limit >= max(many) else None)


class Calls(unittest.TestCase):
    def test_no_answer_depends_on_earlier_calls(self):
        machine = parse(JUST_SMALL[0])
        first = level(machine, 3)
        first.append("more")
        self.assertEqual(level(machine, 3), plain_level(machine, 3))
        self.assertIsNot(level(machine, 3), level(machine, 3))
        self.assertIsNot(level(machine, 0), level(machine, 0))
        for _ in range(2):
            self.assertEqual(find_dead_end(parse("1RB0RB_0LC0LZ_1LA1RB"), 20), 5)
            self.assertIs(find_dead_end(TWO, 20), None)


if __name__ == "__main__":
    unittest.main()
