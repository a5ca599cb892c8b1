import itertools
import unittest

from tacet.blocks import MOST_BLOCK, cross, crossings
from tacet.errors import TooLarge
from tacet.machines import STOP, mirrored, parse
from tacet.tapes import BLANK, run
from tests.samples import Numbers, long_run, plain_cross, plain_crossings, some_machines

TWO = parse("1RB1LB_1LA1RZ")
FOUR = parse("1RB1LB_1LA0LC_1RZ1LD_1RD0RA")
NEVER = ("never", STOP, (), 0, 0)


def blocks(symbols, lengths):
    return [block for length in lengths for block in itertools.product(range(symbols), repeat=length)]


class Cross(unittest.TestCase):
    def test_to_each_side(self):
        right, left = parse("0RZ2RA1RA"), parse("0RZ2LA1LA")
        self.assertEqual(cross(right, 0, 0, (1, 2, 1)), ("right", 0, (2, 1, 2), 3, 3))
        self.assertEqual(cross(right, 0, 2, (1, 2, 1)), ("right", 0, (1, 2, 2), 1, 3))
        self.assertEqual(cross(left, 0, 2, (1, 2, 1)), ("left", 0, (2, 1, 2), 3, -1))
        self.assertEqual(cross(left, 0, 0, (1, 2, 1)), ("left", 0, (2, 2, 1), 1, -1))
        self.assertEqual(cross(machine=TWO, state=0, index=0, block=(0, 0)), ("left", 1, (1, 1), 3, -1))

    def test_back_to_the_side_from_which_the_head_came(self):
        self.assertEqual(cross(parse("0RA1LB_1LB1RZ"), 0, 0, (0, 0, 1)), ("left", 1, (1, 1, 1), 5, -1))
        self.assertEqual(cross(parse("0LA1RB_1RB1RZ"), 0, 2, (1, 0, 0)), ("right", 1, (1, 1, 1), 5, 3))

    def test_a_stop_in_the_block(self):
        self.assertEqual(cross(parse("2RZ1RA1RA"), 0, 0, (1, 1, 0, 1)), ("stop", STOP, (1, 1, 2, 1), 3, 3))
        self.assertEqual(cross(parse("2LZ1RA1RA"), 0, 0, (1, 1, 0, 1)), ("stop", STOP, (1, 1, 2, 1), 3, 1))

    def test_a_stop_that_leaves_the_block(self):
        self.assertEqual(cross(parse("2RZ1RA1RA"), 0, 0, (1, 1, 0)), ("stop", STOP, (1, 1, 2), 3, 3))
        self.assertEqual(cross(parse("2LZ1LA1LA"), 0, 1, (0, 1)), ("stop", STOP, (2, 1), 2, -1))
        for block in ((0,), (1,)):
            self.assertEqual(cross(parse("1RZ1RZ"), 0, 0, block), ("stop", STOP, (1,), 1, 1))
            self.assertEqual(cross(parse("0LZ0LZ"), 0, 0, block), ("stop", STOP, (0,), 1, -1))

    def test_never(self):
        turn = parse("0RB0RB_0LA0LA")
        for index in (0, 1):
            self.assertEqual(cross(turn, 0, index, (0, 0, 0)), NEVER)
        self.assertEqual(cross(turn, 0, 2, (0, 0, 0)), ("right", 1, (0, 0, 0), 1, 3))
        self.assertEqual(cross(turn, 1, 0, (0, 0)), ("left", 0, (0, 0), 1, -1))
        # The block at the beginning does not come again, but a later one does.
        self.assertEqual(cross(parse("1RB1RB_1LA1LA"), 0, 0, (0, 0)), NEVER)
        self.assertEqual(cross(parse("1RB0RB_0LA1LA"), 0, 0, (1, 0, 1)), NEVER)

    def test_the_same_block_in_another_state_or_place(self):
        # The state, the index and the block have to return, not only two of them.
        self.assertEqual(cross(parse("0RA0RA"), 0, 0, (0,) * 6), ("right", 0, (0,) * 6, 6, 6))
        machine = parse("0RB0RZ_0LC0RZ_0RD0RZ_0LZ0LZ")
        self.assertEqual(cross(machine, 0, 0, (0, 0)), ("stop", STOP, (0, 0), 4, 0))
        self.assertEqual(cross(parse("1RB0RB_0LA0LA"), 0, 0, (0, 0))[0], "never")
        self.assertEqual(cross(parse("1RB2RB3RB1RZ_0LA0LA0LA0LA"), 0, 0, (0, 0)), ("stop", STOP, (1, 0), 7, 1))

    def test_blocks_of_one_symbol(self):
        for machine in some_machines(1, 4):
            for state, row in enumerate(machine):
                for symbol, (write, move, after) in enumerate(row):
                    kind = "stop" if after == STOP else "right" if move == 1 else "left"
                    self.assertEqual(cross(machine, state, 0, (symbol,)), (kind, after, (write,), 1, move))

    def test_blocks_of_each_length(self):
        self.assertEqual(MOST_BLOCK, 6)
        numbers = Numbers(2)
        kinds = {}
        for machine in some_machines(3, 6):
            for length in range(1, 7):
                block = tuple(numbers.below(len(machine[0])) for _ in range(length))
                for state in range(len(machine)):
                    for index in range(length):
                        result = cross(machine, state, index, block)
                        self.assertEqual(result, plain_cross(machine, state, index, block))
                        kinds.setdefault(result[0], []).append(result[4])
                        if result[0] != "never":
                            self.assertEqual(len(result[2]), length)
        self.assertEqual(set(kinds), {"stop", "left", "right", "never"})
        self.assertEqual(set(kinds["left"]), {-1})
        self.assertEqual(set(kinds["right"]), {1, 2, 3, 4, 5, 6})
        self.assertEqual(set(kinds["stop"]), {-1, 0, 1, 2, 3, 4, 5, 6})

    def test_each_block_of_small_machines(self):
        for line in ("1RB1LB_1LA1RZ", "1RB0LB_1LA0RA", "0RB1LA_1LB0RA", "1RB1RZ_0LA1RB"):
            machine = parse(line)
            for block in blocks(2, (1, 2, 3, 4, 6)):
                for index in range(len(block)):
                    for state in (0, 1):
                        self.assertEqual(cross(machine, state, index, block), plain_cross(machine, state, index, block))

    def test_mirrored_crossings(self):
        numbers = Numbers(4)
        for machine in some_machines(5, 4):
            block = tuple(numbers.below(len(machine[0])) for _ in range(5))
            for index in range(5):
                kind, state, last, steps, end = cross(machine, 0, index, block)
                if kind != "never":
                    kind = {"left": "right", "right": "left", "stop": "stop"}[kind]
                    end = 4 - end
                result = cross(mirrored(machine), 0, 4 - index, block[::-1])
                self.assertEqual(result, (kind, state, last[::-1], steps, end))

    def test_long_crossings(self):
        # Counts in the block, the lowest digit on the right, until all digits have been the highest one.
        counter = parse("1LB2LB3LB0RA_0RC0RC0RC0RC_0RA0RA0RA0RA")
        binary = parse("1RB0LA_0LC1LC_0RB1RB")
        for machine in (counter, binary, parse("1LB0RA_1RA0LB")):
            for block in ((0,) * 6, (1, 0, 1, 0, 1, 0)):
                for index in range(6):
                    self.assertEqual(cross(machine, 0, index, block), plain_cross(machine, 0, index, block))


class Crossings(unittest.TestCase):
    def test_none(self):
        for machine in some_machines(6, 2):
            for length in range(1, 7):
                self.assertEqual(crossings(machine, length, 0), (BLANK, 0, 0, ""))

    def test_to_each_side(self):
        for length in range(1, 7):
            for count in (1, 2, 7):
                many = length * count
                result = crossings(parse("1RA1RZ"), length, count)
                self.assertEqual(result, ((0, many, 0, (1,) * many), count, many, "right"))
                # To the left the first crossing is one step, because the place 0 is the first of its block.
                many = length * (count - 1) + 1
                result = crossings(parse("1LA1RZ"), length, count)
                self.assertEqual(result, ((0, -many, 1 - many, (1,) * many), count, many, "left"))
        self.assertEqual(crossings(machine=parse("1RA1RZ"), length=3, count=1)[1:], (1, 3, "right"))

    def test_a_machine_that_stops(self):
        last = (STOP, 0, -2, (1, 1, 1, 1))
        for length in range(1, 7):
            expected = plain_crossings(TWO, length, 50)
            self.assertEqual((expected[0], expected[2:]), (last, (6, "stop")))
            for count in (expected[1], expected[1] + 1, 100, 2000):
                self.assertEqual(crossings(TWO, length, count), expected)
            before = crossings(TWO, length, expected[1] - 1)
            self.assertEqual(before[1], expected[1] - 1)
            self.assertNotEqual(before[3], "stop")
            self.assertEqual(crossings(FOUR, length, 2000)[2:], (107, "stop"))

    def test_a_stop_that_leaves_the_block(self):
        self.assertEqual(crossings(parse("1RZ1RZ"), 1, 5), ((STOP, 1, 0, (1,)), 1, 1, "stop"))
        self.assertEqual(crossings(parse("1LZ1RZ"), 4, 5), ((STOP, -1, 0, (1,)), 1, 1, "stop"))
        machine = parse("1RB1RZ_0RC0RZ_1RZ0RZ")
        self.assertEqual(crossings(machine, 3, 9), ((STOP, 3, 0, (1, 0, 1)), 1, 3, "stop"))
        self.assertEqual(crossings(machine, 2, 9), ((STOP, 3, 0, (1, 0, 1)), 2, 3, "stop"))

    def test_never_at_the_beginning(self):
        turn = parse("0RB0RB_0LA0LA")
        for length in range(2, 7):
            for count in (1, 2, 2000):
                self.assertEqual(crossings(turn, length, count), (BLANK, 1, 0, "never"))
        # Blocks of one cell cannot hold a loop: the head leaves each one at once.
        self.assertEqual(crossings(turn, 1, 2000), (BLANK, 2000, 2000, "left"))
        self.assertEqual(crossings(turn, 1, 1999), ((1, 1, 0, ()), 1999, 1999, "right"))

    def test_never_later(self):
        # Two cells to the right, and then there and back between the next two.
        machine = parse("1RB1RZ_1RC1RZ_0RD0RD_0LC0LC")
        self.assertEqual(crossings(machine, 2, 1), ((2, 2, 0, (1, 1)), 1, 2, "right"))
        for count in (2, 3, 2000):
            self.assertEqual(crossings(machine, 2, count), ((2, 2, 0, (1, 1)), 2, 2, "never"))
        self.assertEqual(crossings(machine, 4, 9), (BLANK, 1, 0, "never"))

    def test_each_row_is_that_of_the_document(self):
        kinds = {}
        for machine in some_machines(7, 20):
            for length in range(1, 7):
                for count in (0, 1, 2, 5, 30):
                    result = crossings(machine, length, count)
                    self.assertEqual(result, plain_crossings(machine, length, count))
                    kinds[result[3]] = kinds.get(result[3], 0) + 1
        self.assertEqual(set(kinds), {"", "stop", "left", "right", "never"})
        self.assertGreater(min(kinds.values()), 20)

    def test_the_configuration_is_that_of_the_run(self):
        for machine in some_machines(8, 6):
            for length in (1, 2, 3, 6):
                configuration, done, steps, kind = crossings(machine, length, 40)
                self.assertEqual(configuration, long_run(machine, BLANK, steps)[0])
                if kind == "never":
                    self.assertNotEqual(run(machine, configuration, 20000)[0][0], STOP)

    def test_many_crossings(self):
        for line in ("1RB2LA1RA1RA_1LB1LA3RB1RZ", "1RB1LA_1LA1RB", "1RB0LB_1LA0RA"):
            machine = parse(line)
            for length in (1, 6):
                configuration, done, steps, kind = crossings(machine, length, 2000)
                self.assertEqual((done, kind in ("left", "right")), (2000, True))
                self.assertGreaterEqual(steps, 2000)
                self.assertEqual(configuration, long_run(machine, BLANK, steps)[0])

    def test_too_large(self):
        for line, side in (("1RA1RZ", 1), ("1LA1RZ", -1)):
            machine = parse(line)
            last = 1666 if side == 1 else 1667
            configuration, done, steps, kind = crossings(machine, 6, last)
            self.assertEqual((done, steps, len(configuration[3])), (last, abs(configuration[1]), steps))
            self.assertIn(steps, (9996, 9997))
            for count in (last + 1, last + 2, 2000):
                with self.assertRaises(TooLarge):
                    crossings(machine, 6, count)
            self.assertEqual(len(crossings(machine, 5, 2000)[0][3]), 10000 if side == 1 else 9996)

    def test_far_places_are_not_too_large(self):
        # Only the place of the head grows, or only the first cell: the cells are few.
        machine = parse("1RB1RZ_0RB0RZ")
        self.assertEqual(crossings(machine, 6, 2000), ((1, 12000, 0, (1,)), 2000, 12000, "right"))
        self.assertEqual(crossings(parse("0RA0RZ"), 6, 2000), ((0, 12000, 0, ()), 2000, 12000, "right"))
        self.assertEqual(crossings(parse("0LA0RZ"), 6, 2000), ((0, -11995, 0, ()), 2000, 11995, "left"))


class Calls(unittest.TestCase):
    def test_no_answer_depends_on_earlier_calls(self):
        machines = some_machines(9, 1)
        first = [(cross(one, 0, 1, (0, 1, 1)), crossings(one, 3, 20)) for one in machines]
        crossings(FOUR, 6, 2000)
        with self.assertRaises(TooLarge):
            crossings(parse("1RA1RZ"), 6, 2000)
        again = [(crossings(one, 3, 20), cross(one, 0, 1, (0, 1, 1))) for one in machines[::-1]]
        self.assertEqual([(one, row) for row, one in again[::-1]], first)

    def test_results_hold_no_lists(self):
        for result in (cross(TWO, 0, 0, (0, 0)), cross(parse("0RB0RB_0LA0LA"), 0, 0, (0, 0)), crossings(FOUR, 3, 9)):
            self.assertIs(type(result), tuple)
            hash(result)


if __name__ == "__main__":
    unittest.main()
