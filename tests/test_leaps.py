import unittest

from tacet.errors import Stopped, TooLarge
from tacet.leaps import MOST_RUNS, from_runs, leap, leaps, to_runs
from tacet.machines import STOP, mirrored, parse
from tacet.tapes import BLANK, run
from tests.samples import LIMIT, Numbers, long_run, plain_runs, some_configuration, some_machines, some_strip

TWO = parse("1RB1LB_1LA1RZ")
SWEEP = parse("1RB2LA1RA1RA_1LB1LA3RB1RZ")
MOST = 10 ** 18
EMPTY = (0, 0, 0, (), ())


def turned(tape):
    """The mirrored tape of runs."""
    state, place, symbol, left, right = tape
    return (state, -place, symbol, right, left)


def stripes(many):
    """Runs of one cell, the last one of the symbol 1."""
    return tuple((1 + at % 2, 1) for at in range(many))[::-1]


class ToRuns(unittest.TestCase):
    def both_ways(self, configuration, tape):
        self.assertEqual(to_runs(configuration), tape)
        self.assertEqual(from_runs(tape), configuration)

    def test_long_runs(self):
        cells = (1,) * 3000 + (0,) * 2000 + (2,) * 10 + (1,) * 4990
        right = ((0, 1500), (2, 10), (1, 4990))
        self.both_ways((1, 3499, 0, cells), (1, 3499, 0, ((0, 499), (1, 3000)), right))
        self.both_ways((1, -501, -4000, cells), (1, -501, 0, ((0, 499), (1, 3000)), right))
        self.assertEqual(to_runs(configuration=(1, 2, 0, (1,) * 9))[2:], (1, ((1, 2),), ((1, 6),)))
        self.assertEqual(from_runs(tape=(1, 2, 1, ((1, 2),), ((1, 6),))), (1, 2, 0, (1,) * 9))

    def test_without_cells(self):
        self.both_ways(BLANK, EMPTY)
        for place in (1, -1, 50, LIMIT, -LIMIT):
            self.both_ways((2, place, 0, ()), (2, place, 0, (), ()))
            self.both_ways((STOP, place, 0, ()), (STOP, place, 0, (), ()))

    def test_the_head_in_the_cells_and_at_their_ends(self):
        cells = (1, 1, 0, 2, 2, 2)
        self.both_ways((0, 5, 5, cells), (0, 5, 1, (), ((1, 1), (0, 1), (2, 3))))
        self.both_ways((0, 6, 5, cells), (0, 6, 1, ((1, 1),), ((0, 1), (2, 3))))
        self.both_ways((0, 7, 5, cells), (0, 7, 0, ((1, 2),), ((2, 3),)))
        self.both_ways((0, 8, 5, cells), (0, 8, 2, ((0, 1), (1, 2)), ((2, 2),)))
        self.both_ways((0, 10, 5, cells), (0, 10, 2, ((2, 2), (0, 1), (1, 2)), ()))
        self.both_ways((STOP, 7, 7, (3,)), (STOP, 7, 3, (), ()))

    def test_the_head_beside_the_cells(self):
        cells = (1, 1, 0, 2, 2, 2)
        self.both_ways((0, 4, 5, cells), (0, 4, 0, (), ((1, 2), (0, 1), (2, 3))))
        self.both_ways((0, 3, 5, cells), (0, 3, 0, (), ((0, 1), (1, 2), (0, 1), (2, 3))))
        self.both_ways((0, -5, 5, cells), (0, -5, 0, (), ((0, 9), (1, 2), (0, 1), (2, 3))))
        self.both_ways((0, 11, 5, cells), (0, 11, 0, ((2, 3), (0, 1), (1, 2)), ()))
        self.both_ways((0, 12, 5, cells), (0, 12, 0, ((0, 1), (2, 3), (0, 1), (1, 2)), ()))
        self.both_ways((0, 20, 5, cells), (0, 20, 0, ((0, 9), (2, 3), (0, 1), (1, 2)), ()))

    def test_the_head_far_beside_the_cells(self):
        self.both_ways((0, LIMIT, 0, (1,)), (0, LIMIT, 0, ((0, LIMIT - 1), (1, 1)), ()))
        self.both_ways((0, -LIMIT, 0, (1, 2)), (0, -LIMIT, 0, (), ((0, LIMIT - 1), (1, 1), (2, 1))))
        self.both_ways((0, -LIMIT, LIMIT, (1, 1)), (0, -LIMIT, 0, (), ((0, 2 * LIMIT - 1), (1, 2))))
        self.both_ways((0, LIMIT, -LIMIT, (2, 1)), (0, LIMIT, 0, ((0, 2 * LIMIT - 2), (1, 1), (2, 1)), ()))
        self.both_ways((0, LIMIT, LIMIT, (1,) * 10000), (0, LIMIT, 1, (), ((1, 9999),)))

    def test_each_tape_is_that_of_the_document(self):
        numbers = Numbers(1)
        for machine in some_machines(2, 20):
            configuration = some_configuration(numbers, machine, numbers.below(9) - 4)
            self.both_ways(configuration, plain_runs(configuration))

    def test_configurations_of_long_runs(self):
        for machine in some_machines(3, 5):
            configuration = run(machine, BLANK, 500)[0]
            self.both_ways(configuration, plain_runs(configuration))

    def test_too_many_runs(self):
        self.assertEqual(MOST_RUNS, 1000)
        cells = (1, 2) * 1200
        for many in (998, 999, 1000):
            left, right = to_runs((0, many, 0, cells[:many + 1])), to_runs((0, 0, 0, cells[:many + 1]))
            self.assertEqual((len(left[3]), len(left[4])), (many, 0))
            self.assertEqual((len(right[3]), len(right[4])), (0, many))
            both = to_runs((0, many, 0, cells[:many + 1001]))
            self.assertEqual((both[3], len(both[4])), (left[3], 1000))
            self.assertEqual(from_runs(both), (0, many, 0, cells[:many + 1001]))
        for many in (1001, 1002, 1100):
            for place in (0, many):
                with self.assertRaises(TooLarge):
                    to_runs((0, place, 0, cells[:many + 1]))
            with self.assertRaises(TooLarge):
                to_runs((0, many, 0, cells[:many + 1001]))
            with self.assertRaises(TooLarge):
                to_runs((0, 1000, 0, cells[:many + 1001]))

    def test_blanks_beside_the_head_are_a_run_too_many(self):
        cells = (1, 2) * 500
        self.assertEqual(len(to_runs((0, 1000, 0, cells))[3]), 1000)
        self.assertEqual(len(to_runs((0, -1, 0, cells))[4]), 1000)
        for place in (1001, 1005, LIMIT, -2, -7, -LIMIT):
            with self.assertRaises(TooLarge):
                to_runs((0, place, 0, cells))
            self.assertEqual(len(to_runs((0, place, 0, cells[:-1]))[3 if place > 0 else 4]), 1000)


class FromRuns(unittest.TestCase):
    def refuse(self, *tapes):
        for tape in tapes:
            with self.assertRaises(TooLarge):
                from_runs(tape)
            with self.assertRaises(TooLarge):
                from_runs(turned(tape))

    def test_too_many_cells(self):
        self.assertEqual(from_runs((0, 0, 1, (), ((1, 9999),))), (0, 0, 0, (1,) * 10000))
        self.assertEqual(from_runs((0, 0, 1, ((1, 9999),), ())), (0, 0, -9999, (1,) * 10000))
        self.assertEqual(from_runs((0, 0, 0, (), ((1, 10000),))), (0, 0, 1, (1,) * 10000))
        cells = (2,) + (0,) * 9998 + (1,)
        self.assertEqual(from_runs((0, 0, 0, ((0, 4000), (2, 1)), ((0, 5997), (1, 1)))), (0, 0, -4001, cells))
        self.assertEqual(from_runs((0, 0, 0, (), ((0, 7), (2, 1), (0, 9998), (1, 1)))), (0, 0, 8, cells))
        self.refuse(
            (0, 0, 1, (), ((1, 10000),)), (0, 0, 0, (), ((1, 10001),)),
            (0, 0, 0, ((0, 4000), (2, 1)), ((0, 5998), (1, 1))), (0, 0, 0, (), ((0, 7), (2, 1), (0, 9999), (1, 1))),
            (0, 0, 1, ((1, 5000),), ((1, 5000),)), (0, 0, 1, (), ((1, MOST),)), (0, 0, 0, (), ((1, 1), (0, MOST), (1, 1))),
        )

    def test_places(self):
        for place in (LIMIT, -LIMIT):
            self.assertEqual(from_runs((0, place, 0, (), ())), (0, place, 0, ()))
            self.assertEqual(from_runs((0, place, 2, (), ())), (0, place, place, (2,)))
        for place in (LIMIT + 1, LIMIT + 2, 10 ** 12, MOST):
            self.refuse((0, place, 0, (), ()), (0, place, 2, (), ()), (0, place, 0, ((0, place - 1), (1, 1)), ()))

    def test_first_cells(self):
        self.assertEqual(from_runs((0, 0, 0, (), ((0, LIMIT - 1), (1, 5)))), (0, 0, LIMIT, (1,) * 5))
        self.assertEqual(from_runs((0, 0, 0, ((0, LIMIT - 1), (1, 1)), ())), (0, 0, -LIMIT, (1,)))
        self.assertEqual(from_runs((0, LIMIT, 1, (), ((2, 9),))), (0, LIMIT, LIMIT, (1,) + (2,) * 9))
        for tape in [
            (0, 0, 0, (), ((0, LIMIT), (1, 1))), (0, LIMIT, 0, (), ((1, 1),)), (0, LIMIT, 0, (), ((0, 5), (1, 1))),
            (0, 0, 0, ((0, LIMIT), (1, 1)), ()), (0, 0, 0, ((0, LIMIT - 1), (1, 2)), ()), (0, -LIMIT, 0, ((1, 1),), ()),
            (0, -LIMIT, 1, ((1, 1),), ()), (0, 0, 0, (), ((0, MOST), (1, 1))), (0, 0, 0, ((0, MOST), (1, 1)), ()),
        ]:
            with self.assertRaises(TooLarge):
                from_runs(tape)

    def test_the_number_of_runs_does_not_matter(self):
        for many in (1000, 1001, 3000):
            cells = tuple(symbol for symbol, _ in stripes(many))
            self.assertEqual(from_runs((0, 0, 0, (), stripes(many))), (0, 0, 1, cells))
            self.assertEqual(from_runs((0, 0, 0, stripes(many), ())), (0, 0, -many, cells[::-1]))


class Leap(unittest.TestCase):
    def check(self, line, tape, expected, steps):
        """Check a leap, and the mirrored leap of the mirrored machine."""
        machine = parse(line)
        self.assertEqual(leap(machine, tape), (expected, steps))
        self.assertEqual(leap(mirrored(machine), turned(tape)), (turned(expected), steps))

    def refuse(self, line, tape):
        machine = parse(line)
        for alike, one in ((machine, tape), (mirrored(machine), turned(tape))):
            with self.assertRaises(TooLarge):
                leap(alike, one)
            with self.assertRaises(TooLarge):
                leaps(alike, one, 1)

    def test_one_step_to_another_symbol(self):
        self.check("1RA1RZ", (0, 0, 0, (), ((1, 4),)), (0, 1, 1, ((1, 1),), ((1, 3),)), 1)
        self.check("0RZ2RA0RZ", (0, 5, 1, ((2, 1),), ((2, 1), (1, 7))), (0, 6, 2, ((2, 2),), ((1, 7),)), 1)
        self.check("0RZ2RA0RZ", (0, 5, 1, ((2, 1),), ()), (0, 6, 0, ((2, 2),), ()), 1)
        self.check("0RZ2RA0RZ", (0, 5, 1, ((2, 1),), ((0, 3), (1, 1))), (0, 6, 0, ((2, 2),), ((0, 2), (1, 1))), 1)

    def test_one_step_where_the_state_changes(self):
        self.check("1RB1RB_0LA1RZ", (0, 0, 1, (), ((1, 4),)), (1, 1, 1, ((1, 1),), ((1, 3),)), 1)
        self.check("1RB1RB_0LA1RZ", (0, 0, 0, (), ()), (1, 1, 0, ((1, 1),), ()), 1)
        self.check("1RB1RB_0LA1RZ", (1, 0, 1, ((1, 4),), ((1, 1),)), (STOP, 1, 1, ((1, 5),), ()), 1)
        self.check("0RZ0RZ", (0, 3, 1, (), ((1, MOST),)), (STOP, 4, 1, (), ((1, MOST - 1),)), 1)

    def test_steps_over_a_run(self):
        # The written symbol is that of the run, that of the run behind the head, or neither.
        ahead = ((1, 4), (2, 1))
        self.check("0RZ1RA0RZ", (0, 0, 1, ((2, 3),), ahead), (0, 5, 2, ((1, 5), (2, 3)), ()), 5)
        self.check("0RZ1RA0RZ", (0, 0, 1, ((1, 3),), ahead), (0, 5, 2, ((1, 8),), ()), 5)
        self.check("0RZ2RA0RZ", (0, 0, 1, ((2, 3),), ahead), (0, 5, 2, ((2, 8),), ()), 5)
        self.check("0RZ0RA0RZ", (0, 0, 1, ((2, 3),), ahead), (0, 5, 2, ((0, 5), (2, 3)), ()), 5)
        self.check("0RZ2RA0RZ", (0, 0, 1, (), ahead), (0, 5, 2, ((2, 5),), ()), 5)
        self.check("0RZ2RA0RZ", (0, 0, 1, (), ((1, 4), (2, 6))), (0, 5, 2, ((2, 5),), ((2, 5),)), 5)
        self.check("0RZ2RA0RZ", (0, 0, 1, (), ((1, 4),)), (0, 5, 0, ((2, 5),), ()), 5)
        self.check("0RZ2RA0RZ", (0, 0, 1, (), ((1, 4), (0, 2), (1, 1))), (0, 5, 0, ((2, 5),), ((0, 1), (1, 1))), 5)

    def test_steps_over_blanks(self):
        self.check("1RA0RZ", (0, 7, 0, (), ((0, 4), (1, 1))), (0, 12, 1, ((1, 5),), ()), 5)
        self.check("0RA0RZ", (0, 7, 0, (), ((0, 4), (1, 2))), (0, 12, 1, (), ((1, 1),)), 5)
        self.check("0RA0RZ", (0, 7, 0, ((1, 1),), ((0, 4), (1, 2))), (0, 12, 1, ((0, 5), (1, 1)), ((1, 1),)), 5)
        self.check("0RA0RZ", (0, 7, 0, ((0, 6), (1, 1)), ((0, 4), (1, 2))), (0, 12, 1, ((0, 11), (1, 1)), ((1, 1),)), 5)

    def test_no_run_of_blanks_is_last(self):
        self.check("0RA0RA", (0, 0, 1, (), ()), (0, 1, 0, (), ()), 1)
        self.check("0RA0RA", (0, 0, 1, (), ((1, 8),)), (0, 9, 0, (), ()), 9)
        self.check("1RA0RB_1LZ1LZ", (0, 0, 1, (), ((1, 8),)), (1, 1, 1, (), ((1, 7),)), 1)
        self.check("0RA0RA", (0, 0, 1, ((0, 2), (1, 1)), ()), (0, 1, 0, ((0, 3), (1, 1)), ()), 1)

    def test_endless_machines(self):
        for tape in (EMPTY, (0, -4, 0, ((1, 3),), ()), (0, MOST, 0, ((2, MOST), (1, 3)), ())):
            self.check("1RA1RZ0RZ", tape, tape, 0)
        self.check("1RZ1RZ0RZ_0LB1RA1RA", (1, 5, 0, (), ((0, 4), (1, 1))), (1, 5, 0, (), ((0, 4), (1, 1))), 0)
        self.assertEqual(leap(machine=parse("1RA1RZ"), tape=EMPTY), (EMPTY, 0))
        # There is no leap, so there is no tape that would be too large.
        for tape in ((0, MOST + 1, 0, (), ()), (0, 0, 0, ((1, MOST + 1),), ()), (0, 0, 0, stripes(1001), ())):
            self.check("1RA1RZ0RZ", tape, tape, 0)

    def test_machines_that_are_not_endless(self):
        # The head is at the last cell, it moves to the cells, or the state changes.
        self.check("1RA1RA", (0, 0, 1, ((2, 1),), ()), (0, 1, 0, ((1, 1), (2, 1)), ()), 1)
        self.check("1LA1RA", (0, 0, 0, ((2, 1),), ()), (0, -1, 2, (), ((1, 1),)), 1)
        self.check("1RB1RA_0RA0RA", EMPTY, (1, 1, 0, ((1, 1),), ()), 1)
        self.check("1RZ1RA", EMPTY, (STOP, 1, 0, ((1, 1),), ()), 1)

    def test_the_state_stop(self):
        for tape in ((STOP, 0, 0, (), ()), (STOP, 3, 1, ((1, 2),), ()), (STOP, 10 ** 19, 0, (), ((1, 10 ** 19),))):
            for machine in (TWO, parse("1RA1RA")):
                with self.assertRaises(Stopped):
                    leap(machine, tape)

    def test_very_long_runs(self):
        self.check("0RZ2RA0RZ", (0, 0, 1, (), ((1, MOST - 1),)), (0, MOST, 0, ((2, MOST),), ()), MOST)
        self.check("0RZ2RA0RZ", (0, -5, 1, ((2, 1),), ((1, MOST - 2), (2, 1))), (0, MOST - 6, 2, ((2, MOST),), ()), MOST - 1)
        self.check("0RA0RZ", (0, -1, 0, (), ((0, MOST), (1, 1))), (0, MOST, 1, (), ()), MOST + 1)
        self.check("1RZ1RB_1RA1RA", (0, 4, 1, ((1, 2),), ((1, MOST),)), (1, 5, 1, ((1, 3),), ((1, MOST - 1),)), 1)

    def test_a_count_too_great(self):
        one = "0RZ1RB_0RZ0RZ"
        self.check(one, (0, 0, 1, ((1, MOST - 1),), ()), (1, 1, 0, ((1, MOST),), ()), 1)
        self.refuse(one, (0, 0, 1, ((1, MOST),), ()))
        self.check(one, (0, 0, 1, ((2, MOST),), ()), (1, 1, 0, ((1, 1), (2, MOST)), ()), 1)
        many = "0RZ1RA0RZ"
        start = -MOST
        self.check(many, (0, start, 1, ((1, 3),), ((1, MOST - 4),)), (0, -3, 0, ((1, MOST),), ()), MOST - 3)
        self.refuse(many, (0, start, 1, ((1, 3),), ((1, MOST - 3),)))
        self.refuse(many, (0, start, 1, ((2, 3),), ((1, MOST),)))
        self.check(many, (0, start, 1, ((2, 3),), ((1, MOST - 1),)), (0, 0, 0, ((1, MOST), (2, 3)), ()), MOST)
        blanks = "0RA0RZ"
        self.refuse(blanks, (0, start, 0, ((1, 1),), ((0, MOST), (1, 1))))
        self.refuse(blanks, (0, start, 0, ((0, 1), (1, 1)), ((0, MOST - 1), (1, 1))))
        ready = (0, start, 0, ((0, 1), (1, 1)), ((0, MOST - 2), (1, 1)))
        self.check(blanks, ready, (0, -1, 1, ((0, MOST), (1, 1)), ()), MOST - 1)

    def test_a_place_too_far(self):
        self.check("1RB1RZ_1RZ1RZ", (0, MOST - 1, 0, (), ()), (1, MOST, 0, ((1, 1),), ()), 1)
        self.refuse("1RB1RZ_1RZ1RZ", (0, MOST, 0, (), ()))
        # The step that stops is no exception.
        self.refuse("1RZ1RZ", (0, MOST, 0, (), ()))
        self.check("0RZ2RA0RZ", (0, MOST - 5, 1, (), ((1, 4),)), (0, MOST, 0, ((2, 5),), ()), 5)
        self.refuse("0RZ2RA0RZ", (0, MOST - 4, 1, (), ((1, 4),)))
        self.refuse("0RZ2RA0RZ", (0, 1, 1, (), ((1, MOST - 1),)))

    def test_too_many_runs(self):
        line = "0RZ2RB1RB0RZ_0RZ0RZ0RZ0RZ"
        for many in (997, 999):
            self.assertEqual(stripes(many)[0], (1, 1))
            self.check(line, (0, 0, 1, stripes(many), ()), (1, 1, 0, ((2, 1),) + stripes(many), ()), 1)
        self.refuse(line, (0, 0, 2, stripes(1000), ()))
        self.refuse(line, (0, 0, 2, stripes(1000), stripes(1000)))
        # A cell that is joined with the run behind the head is no run more.
        full = stripes(1000)
        self.assertEqual(full[:2], ((2, 1), (1, 1)))
        self.check(line, (0, 0, 1, full, full), (1, 1, 2, ((2, 2),) + full[1:], full[1:]), 1)
        self.check("0RZ2RA0RZ", (0, 0, 1, full, ((1, 5),)), (0, 6, 0, ((2, 7),) + full[1:], ()), 6)
        self.refuse("0RZ1RA0RZ", (0, 0, 1, full, ((1, 5),)))

    def test_a_tape_that_is_too_large_before_the_leap(self):
        far = (0, 0, 0, ((1, MOST + 1),), ((1, 1), (2, 1)))
        self.refuse("0LA1RA1RA", (0, 0, 1, ((2, 1), (1, MOST + 1)), ((2, 1),)))
        self.refuse("0RB1RA1RA_1RZ1RZ1RZ", (0, 0, 0, (), ((1, 1),) + stripes(1001)))
        self.assertEqual(leap(parse("0LA1RA1RA"), far), ((0, -1, 1, ((1, MOST),), ((0, 1), (1, 1), (2, 1))), 1))

    def test_each_leap_is_that_of_the_document(self):
        numbers = Numbers(4)
        many = 0
        for machine in some_machines(5, 40):
            tape = some_strip(numbers, machine, 6)
            after, steps = leap(machine, tape)
            configuration = from_runs(tape)
            write, move, state = machine[tape[0]][tape[2]]
            cells = {configuration[2] + at: symbol for at, symbol in enumerate(configuration[3])}
            expected = 1
            if state == tape[0]:
                while expected < 100 and cells.get(tape[1] + move * expected, 0) == tape[2]:
                    expected += 1
            if expected == 100:
                self.assertEqual((after, steps), (tape, 0))
                continue
            many += expected > 1
            self.assertEqual(steps, expected)
            self.assertEqual(after, plain_runs(long_run(machine, configuration, steps)[0]))
        self.assertGreater(many, 50)


class Leaps(unittest.TestCase):
    def test_no_leaps(self):
        for tape in (EMPTY, (1, 5, 1, ((1, 2),), ()), (STOP, 5, 1, ((1, 2),), ())):
            for machine in (TWO, parse("1RA1RA_1RB1RB")):
                self.assertEqual(leaps(machine, tape, 0), (tape, 0, 0, False))

    def test_the_state_stop_at_the_beginning(self):
        for tape in ((STOP, 0, 0, (), ()), (STOP, 5, 1, ((1, 2),), ((2, MOST),))):
            for count in (0, 1, 10000):
                self.assertEqual(leaps(TWO, tape, count), (tape, 0, 0, False))

    def test_a_machine_that_stops(self):
        last = (STOP, 0, 1, ((1, 2),), ((1, 1),))
        for count in (6, 7, 10000):
            self.assertEqual(leaps(machine=TWO, tape=EMPTY, count=count), (last, 6, 6, False))
        self.assertEqual(leaps(TWO, EMPTY, 5), ((1, -1, 1, ((1, 1),), ((1, 2),)), 5, 5, False))
        # Four steps over a run, and one that stops.
        machine = parse("0RZ2RA0RZ")
        self.assertEqual(leaps(machine, (0, 0, 1, (), ((1, 3),)), 9), ((STOP, 5, 0, ((0, 1), (2, 4)), ()), 2, 5, False))

    def test_an_endless_machine(self):
        machine = parse("1RA2RA0RZ")
        tape = (0, 0, 1, (), ((1, 3),))
        last = (0, 4, 0, ((2, 4),), ())
        self.assertEqual(leaps(machine, tape, 0), (tape, 0, 0, False))
        # After the last leap that was asked for, no leap is due.
        self.assertEqual(leaps(machine, tape, 1), (last, 1, 4, False))
        for count in (2, 3, 10000):
            self.assertEqual(leaps(machine, tape, count), (last, 1, 4, True))
        self.assertEqual(leaps(machine, last, 0), (last, 0, 0, False))
        self.assertEqual(leaps(machine, last, 1), (last, 0, 0, True))
        self.assertEqual(leaps(mirrored(machine), turned(last), 1), (turned(last), 0, 0, True))
        self.assertIs(leaps(machine, last, 1)[3], True)
        self.assertIs(leaps(machine, last, 0)[3], False)

    def test_leaps_of_known_machines(self):
        for line, steps, marks in [("1RB1LB_1LA0LC_1RZ1LD_1RD0RA", 107, 13), ("1RB2LB1RZ_2LA2RB1LB", 38, 9)]:
            tape, _, done, endless = leaps(parse(line), EMPTY, 10000)
            self.assertEqual((tape[0], done, endless), (STOP, steps, False))
            self.assertEqual(sum(cell != 0 for cell in from_runs(tape)[3]), marks)

    def test_a_row_of_leaps_is_its_leaps(self):
        numbers = Numbers(6)
        for machine in some_machines(7, 10):
            tape = some_strip(numbers, machine, 1000)
            now, done, steps, endless = tape, 0, 0, False
            while done < 60 and now[0] != STOP and not endless:
                now, more = leap(machine, now)
                endless = more == 0
                done, steps = done + (more > 0), steps + more
            self.assertEqual(leaps(machine, tape, 60), (now, done, steps, endless))

    def test_leaps_behind_leaps_are_one_row(self):
        numbers = Numbers(8)
        for machine in some_machines(9, 10):
            tape = some_strip(numbers, machine, 10 ** 9)
            for first, second in ((0, 50), (1, 49), (20, 30), (50, 0)):
                middle, done, steps, _ = leaps(machine, tape, first)
                last, more_done, more_steps, endless = leaps(machine, middle, second)
                result = (last, done + more_done, steps + more_steps, endless)
                if done + more_done < 50 or second == 0:
                    self.assertEqual(leaps(machine, tape, done + second), result)
                else:
                    self.assertEqual(leaps(machine, tape, 50), result)

    def test_leaps_from_the_blank_tape_are_a_run(self):
        for machine in some_machines(10, 10):
            tape, _, steps, _ = leaps(machine, to_runs(BLANK), 80)
            self.assertEqual(from_runs(tape), long_run(machine, BLANK, steps)[0])

    def test_many_leaps(self):
        tape, done, steps, endless = leaps(SWEEP, EMPTY, 10000)
        self.assertEqual((done, endless), (10000, False))
        configuration, taken = run(SWEEP, BLANK, 100000)
        early = leaps(SWEEP, EMPTY, 1000)
        self.assertEqual(from_runs(early[0]), run(SWEEP, BLANK, early[2])[0])
        self.assertGreater(steps, taken)
        self.assertGreater(sum(count for _, count in tape[3] + tape[4]), len(configuration[3]))

    def test_runs_that_grow_beyond_all_configurations(self):
        # There and back over a run that grows by one cell at each end.
        machine = parse("1RB1LA_1LA1RB")
        tape, done, steps, endless = leaps(machine, (1, 0, 1, (), ((1, 10 ** 17 - 1),)), 41)
        self.assertEqual((done, endless), (41, False))
        self.assertEqual(sum(count for _, count in tape[3] + tape[4]) + (tape[2] == 1), 10 ** 17 + 20)
        self.assertGreater(steps, 20 * 10 ** 17)
        with self.assertRaises(TooLarge):
            from_runs(tape)

    def test_too_large(self):
        # There and back over a run that grows at both ends.
        machine = parse("1RB1LA_1LA1RB")
        tape = (1, 5, 1, ((1, MOST - 8),), ())
        now, done = tape, 0
        for done in range(100):
            try:
                now, _ = leap(machine, now)
            except TooLarge:
                break
        self.assertLess(done, 99)
        for count in range(done + 3):
            if count <= done:
                self.assertEqual(leaps(machine, tape, count)[1], count)
            else:
                with self.assertRaises(TooLarge):
                    leaps(machine, tape, count)

    def test_too_many_runs(self):
        # Writes 1 and 2 in turn, to the right.
        machine = parse("1RB0RZ0RZ_2RA0RZ0RZ")
        for alike, side in ((machine, 3), (mirrored(machine), 4)):
            tape, done, steps, endless = leaps(alike, EMPTY, 1000)
            self.assertEqual((done, steps, endless, len(tape[side])), (1000, 1000, False, 1000))
            for count in (1001, 1002, 10000):
                with self.assertRaises(TooLarge):
                    leaps(alike, EMPTY, count)

    def test_a_tape_that_is_too_large_at_the_beginning(self):
        tape = (0, 0, 1, (), ((2, 1), (1, MOST + 1)))
        machine = parse("1RZ1RB1RB_1RZ1RZ1RZ")
        self.assertEqual(leaps(machine, tape, 0), (tape, 0, 0, False))
        with self.assertRaises(TooLarge):
            leaps(machine, tape, 1)
        with self.assertRaises(TooLarge):
            leaps(machine, (1, 0, 1, stripes(1001), ()), 1)


class Calls(unittest.TestCase):
    def test_no_answer_depends_on_earlier_calls(self):
        first = [leaps(SWEEP, EMPTY, count) for count in range(60)]
        with self.assertRaises(TooLarge):
            leap(parse("1RZ1RZ"), (0, MOST, 0, (), ()))
        leaps(TWO, (0, 5, 1, ((1, 9),), ()), 500)
        self.assertEqual([leaps(SWEEP, EMPTY, 59 - count) for count in range(60)], first[::-1])

    def test_results_hold_no_lists(self):
        tape = to_runs((1, 3, 0, (1, 1, 0, 2, 2)))
        for result in (tape, leap(SWEEP, tape)[0], leaps(SWEEP, tape, 7)[0], from_runs(tape)):
            self.assertIs(type(result), tuple)
            self.assertEqual({type(part) for part in result} - {int}, {tuple})
            hash(result)


if __name__ == "__main__":
    unittest.main()
