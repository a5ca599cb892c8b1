import unittest

from tacet.errors import Stopped, TooLarge
from tacet.machines import STOP, mirrored, parse, renamed
from tacet.tapes import BLANK, MOST_CELLS, fits, mirrored_tape, ones, run, shifted, step, symbol_at
from tests.samples import (
    LIMIT, Numbers, long_run, plain_run, plain_step, renamed_configuration, some_configuration, some_machine,
    some_machines, some_naming, too_large,
)

TWO = parse("1RB1LB_1LA1RZ")
THREE = parse("1RB2LA0RZ_2LC1RA0LB_1LA0RC2RB")
OTHERS = [None, 0, 1, -1, True, False, "", "A", [], (), [0], (0,), ((),), [()], ((((),),),), 10 ** 30]


class Fits(unittest.TestCase):
    def accept(self, configuration, machine=THREE):
        self.assertIs(fits(machine, configuration), True, repr(configuration)[:200])

    def refuse(self, configuration, machine=THREE):
        self.assertIs(fits(machine, configuration), False, repr(configuration)[:200])

    def test_ordinary_configurations(self):
        numbers = Numbers(1)
        for machine in some_machines(2, 5):
            self.accept(BLANK, machine)
            for near in (0, -100, LIMIT - 50, 50 - LIMIT):
                self.accept(some_configuration(numbers, machine, near), machine)
        self.accept((2, 5, -3, (1, 0, 2, 0, 0, 1)))
        self.assertIs(fits(machine=TWO, configuration=BLANK), True)

    def test_states(self):
        for machine in some_machines(3, 1):
            for state in range(-3, 6):
                for rest in ((0, 0, ()), (7, -2, (1, 0, 1))):
                    good = -1 <= state < len(machine)
                    self.assertIs(fits(machine, (state,) + rest), good)

    def test_symbols(self):
        for machine in some_machines(4, 1):
            for symbol in range(-2, 6):
                good = 0 <= symbol < len(machine[0])
                self.assertIs(fits(machine, (0, 0, 0, (1, symbol, 1))), good)
                self.assertIs(fits(machine, (0, 0, 0, (symbol, 1))), good and symbol != 0)
                self.assertIs(fits(machine, (0, 0, 0, (1, symbol))), good and symbol != 0)
                self.assertIs(fits(machine, (0, 0, 0, (symbol,))), good and symbol != 0)

    def test_blanks_at_the_ends(self):
        for cells in [(0,), (0, 0), (0, 1), (1, 0), (0, 1, 0), (0, 2, 1, 1), (1, 1, 2, 0), (1, 0, 0)]:
            for first in (0, -4, 4):
                self.refuse((0, 0, first, cells))

    def test_first_without_cells(self):
        for first in (1, -1, 5, LIMIT, -LIMIT):
            self.refuse((0, 0, first, ()))
            self.refuse((0, first, first, ()))
        self.accept((0, 5, 0, ()))

    def test_places(self):
        for place in (LIMIT, LIMIT - 1, -LIMIT, 1 - LIMIT):
            self.accept((0, place, 0, ()))
            self.accept((0, 0, place, (1, 1, 2)))
            self.accept((1, place, place, (2,)))
            self.accept((1, -place, place, (2,)))
        for place in (LIMIT + 1, -LIMIT - 1, 2 * LIMIT, -2 * LIMIT, 10 ** 30):
            self.refuse((0, place, 0, ()))
            self.refuse((0, place, 0, (1,)))
            self.refuse((0, 0, place, (1, 1, 2)))
            self.refuse((0, 0, place, ()))

    def test_the_number_of_cells(self):
        self.assertEqual(MOST_CELLS, 10000)
        self.accept((0, 0, 0, (1,) * 10000))
        self.accept((0, 0, LIMIT, (1,) + (0,) * 9998 + (2,)))
        self.refuse((0, 0, 0, (1,) * 10001))
        self.refuse((0, 0, -5000, (1,) + (0,) * 9999 + (1,)))
        self.refuse((0, 0, 0, (1,) * 20000))

    def test_a_part_too_many_or_too_few(self):
        for good in (BLANK, (1, 2, 3, (1, 2))):
            for wrong in (good[:3], good[1:], good + (0,), good + ((),), good * 2, (good,), good[:2], good[:1]):
                self.refuse(wrong)

    def test_lists(self):
        for good in (BLANK, (1, 2, 3, (1, 2))):
            self.refuse(list(good))
            self.refuse(good[:3] + (list(good[3]),))
            self.refuse([*good[:3], list(good[3])])

    def test_bools(self):
        for good in (BLANK, (1, 1, 1, (1, 2)), (0, 0, 0, (1, 0, 1))):
            for at in range(3):
                for wrong in (True, False):
                    self.refuse(good[:at] + (wrong,) + good[at + 1:])
        for cells in ((True,), (1, True), (True, 1), (1, False, 1), (1, True, 1)):
            self.refuse((0, 0, 0, cells))

    def test_parts_of_other_kinds(self):
        for wrong in OTHERS:
            if isinstance(wrong, int) and not isinstance(wrong, bool):
                continue
            for at in range(3):
                self.refuse((1, 1, 1, (1, 1))[:at] + (wrong,) + (1, 1, 1, (1, 1))[at + 1:])
                self.refuse((0, 0, 0, ())[:at] + (wrong,) + (0, 0, 0, ())[at + 1:])
            self.refuse((0, 0, 0, (1, wrong, 1)))
            self.refuse((0, 0, 0, (wrong,)))
        for wrong in OTHERS:
            if wrong != ():
                self.refuse((0, 0, 0, wrong))

    def test_values_of_other_kinds(self):
        for value in OTHERS + [TWO, "0000", [0, 0, 0, ()], (0, 0, 0), (0, 0, 0, 0), (None,) * 4, "(0, 0, 0, ())"]:
            self.refuse(value)


class Cells(unittest.TestCase):
    def test_symbols_in_places(self):
        configuration = (1, 100, -2, (3, 0, 1, 2))
        expected = {-4: 0, -3: 0, -2: 3, -1: 0, 0: 1, 1: 2, 2: 0, 3: 0, 100: 0}
        for place, symbol in expected.items():
            self.assertEqual(symbol_at(configuration, place), symbol)
        for place in (LIMIT, -LIMIT, 10 ** 20, -10 ** 20, 10 ** 18 + 1):
            self.assertEqual(symbol_at(configuration, place), 0)
        self.assertEqual(symbol_at(configuration=configuration, place=1), 2)

    def test_symbols_without_cells(self):
        for place in (0, 1, -1, 7, LIMIT, -LIMIT):
            self.assertEqual(symbol_at(BLANK, place), 0)
            self.assertEqual(symbol_at((STOP, 7, 0, ()), place), 0)

    def test_symbols_far_away(self):
        for first in (LIMIT, -LIMIT, LIMIT - 1):
            found = [symbol_at((0, 0, first, (2, 1)), first + at) for at in (-1, 0, 1, 2)]
            self.assertEqual(found, [0, 2, 1, 0])

    def test_ones(self):
        self.assertEqual(ones(BLANK), 0)
        self.assertEqual(ones((1, 8, 0, ())), 0)
        self.assertEqual(ones((0, 0, 5, (1,))), 1)
        self.assertEqual(ones((0, 0, 5, (2,))), 1)
        self.assertEqual(ones((STOP, 9, -5, (3, 0, 0, 1, 2, 0, 1))), 4)
        self.assertEqual(ones(configuration=(0, 0, LIMIT, (1,) * 10000)), 10000)
        self.assertEqual(ones((0, 0, 0, (2,) + (0,) * 9998 + (1,))), 2)


class MirroredTape(unittest.TestCase):
    def test_examples(self):
        self.assertEqual(mirrored_tape(BLANK), BLANK)
        self.assertEqual(mirrored_tape((2, 5, 0, ())), (2, -5, 0, ()))
        self.assertEqual(mirrored_tape((STOP, -3, 0, (1,))), (STOP, 3, 0, (1,)))
        self.assertEqual(mirrored_tape((1, 4, 2, (3, 0, 1, 2))), (1, -4, -5, (2, 1, 0, 3)))
        self.assertEqual(mirrored_tape(configuration=(0, -7, -2, (1, 2))), (0, 7, 1, (2, 1)))

    def test_each_symbol_is_at_the_opposite_place(self):
        numbers = Numbers(5)
        for machine in some_machines(6, 10):
            configuration = some_configuration(numbers, machine, numbers.below(40) - 20)
            result = mirrored_tape(configuration)
            self.assertIs(fits(machine, result), True)
            self.assertEqual(result[:2], (configuration[0], -configuration[1]))
            for place in range(-60, 61):
                self.assertEqual(symbol_at(result, -place), symbol_at(configuration, place))
            self.assertEqual(mirrored_tape(result), configuration)

    def test_the_bounds(self):
        self.assertEqual(mirrored_tape((0, LIMIT, LIMIT, (2,))), (0, -LIMIT, -LIMIT, (2,)))
        self.assertEqual(mirrored_tape((0, -LIMIT, 0, ())), (0, LIMIT, 0, ()))
        self.assertEqual(mirrored_tape((0, 0, LIMIT - 1, (2, 1))), (0, 0, -LIMIT, (1, 2)))
        self.assertEqual(mirrored_tape((0, 0, -LIMIT, (2, 1))), (0, 0, LIMIT - 1, (1, 2)))
        many = (1,) * 9999 + (2,)
        self.assertEqual(mirrored_tape((0, 0, LIMIT - 9999, many)), (0, 0, -LIMIT, many[::-1]))
        self.assertEqual(mirrored_tape((0, 0, -LIMIT, many)), (0, 0, LIMIT - 9999, many[::-1]))

    def test_too_large(self):
        for configuration in [
            (0, 0, LIMIT, (1, 1)), (0, 0, LIMIT, (1, 0, 2)), (0, 0, LIMIT - 1, (1, 1, 1)),
            (0, 0, LIMIT - 9998, (1,) * 10000), (STOP, 0, LIMIT, (1,) * 10000), (0, LIMIT, LIMIT, (2, 0, 0, 1)),
        ]:
            self.assertIs(fits(TWO if 2 not in configuration[3] else THREE, configuration), True)
            with self.assertRaises(TooLarge):
                mirrored_tape(configuration)


class Shifted(unittest.TestCase):
    def test_examples(self):
        self.assertEqual(shifted((1, 4, 2, (3, 0, 1)), 10), (1, 14, 12, (3, 0, 1)))
        self.assertEqual(shifted((1, 4, 2, (3, 0, 1)), -10), (1, -6, -8, (3, 0, 1)))
        self.assertEqual(shifted((1, 4, 2, (3, 0, 1)), 0), (1, 4, 2, (3, 0, 1)))
        self.assertEqual(shifted(configuration=(STOP, 4, -2, (1,)), by=2), (STOP, 6, 0, (1,)))

    def test_first_stays_without_cells(self):
        self.assertEqual(shifted(BLANK, 7), (0, 7, 0, ()))
        self.assertEqual(shifted((2, 3, 0, ()), -7), (2, -4, 0, ()))
        self.assertEqual(shifted(BLANK, LIMIT), (0, LIMIT, 0, ()))
        self.assertEqual(shifted((0, LIMIT, 0, ()), -2 * LIMIT), (0, -LIMIT, 0, ()))

    def test_the_bounds(self):
        for side in (1, -1):
            for configuration in [(0, 0, 0, (1,)), (0, side, 0, (1, 2)), (0, -side, 0, (1,)), (0, 0, 0, ())]:
                most = LIMIT - max(side * configuration[1], 0)
                state, place, first, cells = configuration
                expected = (state, place + side * most, first + side * most if cells else 0, cells)
                self.assertEqual(shifted(configuration, side * most), expected)
                for more in (1, 2, 10 ** 5, 10 ** 30):
                    with self.assertRaises(TooLarge):
                        shifted(configuration, side * (most + more))

    def test_the_head_or_first_alone_is_beyond(self):
        cases = [((0, 5, 0, (1,)), 5), ((0, 0, 5, (1,)), 5), ((0, 5, 0, ()), 5)]
        for configuration, ahead in cases:
            shifted(configuration, LIMIT - ahead)
            with self.assertRaises(TooLarge):
                shifted(configuration, LIMIT - ahead + 1)
        cases = [((0, -5, 0, (1,)), 5), ((0, 0, -5, (1, 1)), 5), ((0, -5, 0, ()), 5)]
        for configuration, ahead in cases:
            shifted(configuration, ahead - LIMIT)
            with self.assertRaises(TooLarge):
                shifted(configuration, ahead - LIMIT - 1)

    def test_cells_behind_the_first_one_may_be_beyond(self):
        self.assertEqual(shifted((0, 0, 0, (1,) * 10000), LIMIT), (0, LIMIT, LIMIT, (1,) * 10000))

    def test_there_and_back(self):
        numbers = Numbers(7)
        for machine in some_machines(8, 5):
            configuration = some_configuration(numbers, machine)
            by = numbers.below(1000) - 500
            result = shifted(configuration, by)
            self.assertIs(fits(machine, result), True)
            self.assertEqual(shifted(result, -by), configuration)


class Step(unittest.TestCase):
    def test_inside_the_cells(self):
        self.assertEqual(step(THREE, (0, 1, 0, (1, 0, 2))), (1, 2, 0, (1, 1, 2)))
        self.assertEqual(step(THREE, (0, 1, 0, (2, 1, 2))), (0, 0, 0, (2, 2, 2)))
        self.assertEqual(step(THREE, (1, 2, 0, (1, 0, 2, 1))), (1, 1, 0, (1, 0, 0, 1)))
        self.assertEqual(step(THREE, (0, -6, -7, (1, 2, 1))), (STOP, -5, -7, (1, 0, 1)))

    def test_at_the_ends_of_the_cells(self):
        self.assertEqual(step(THREE, (0, 0, 0, (1, 0, 2))), (0, -1, 0, (2, 0, 2)))
        self.assertEqual(step(THREE, (2, 2, 0, (1, 0, 2))), (1, 3, 0, (1, 0, 2)))
        self.assertEqual(step(THREE, (1, 2, 0, (1, 1, 2))), (1, 1, 0, (1, 1)))
        self.assertEqual(step(THREE, (1, 0, 0, (2, 1, 2))), (1, -1, 1, (1, 2)))

    def test_outside_of_the_cells(self):
        self.assertEqual(step(THREE, (0, 3, 0, (1, 0, 2))), (1, 4, 0, (1, 0, 2, 1)))
        self.assertEqual(step(THREE, (0, -1, 0, (1, 0, 2))), (1, 0, -1, (1, 1, 0, 2)))
        self.assertEqual(step(THREE, (1, 6, 0, (1,))), (2, 5, 0, (1, 0, 0, 0, 0, 0, 2)))
        self.assertEqual(step(THREE, (1, -4, 0, (1,))), (2, -5, -4, (2, 0, 0, 0, 1)))
        self.assertEqual(step(parse("0LA1RZ"), (0, -4, 0, (1, 1))), (0, -5, 0, (1, 1)))

    def test_without_cells(self):
        self.assertEqual(step(machine=TWO, configuration=BLANK), (1, 1, 0, (1,)))
        self.assertEqual(step(TWO, (1, -8, 0, ())), (0, -9, -8, (1,)))
        self.assertEqual(step(parse("0LA1RZ"), (0, 5, 0, ())), (0, 4, 0, ()))

    def test_blanks_at_the_ends_disappear(self):
        eraser = parse("1RA0LA")
        self.assertEqual(step(eraser, (0, 5, 5, (1,))), (0, 4, 0, ()))
        self.assertEqual(step(eraser, (0, 5, 5, (1, 0, 0, 1))), (0, 4, 8, (1,)))
        self.assertEqual(step(eraser, (0, 8, 5, (1, 0, 0, 1))), (0, 7, 5, (1,)))
        self.assertEqual(step(eraser, (0, 6, 5, (1, 1, 0, 1))), (0, 5, 5, (1, 0, 0, 1)))
        self.assertEqual(step(eraser, (0, -1, -1, (1, 1))), (0, -2, 0, (1,)))

    def test_each_step_is_that_of_the_document(self):
        numbers = Numbers(9)
        for machine in some_machines(10, 20):
            for near in (0, LIMIT - 3, 3 - LIMIT):
                configuration = some_configuration(numbers, machine, near)
                if configuration[0] == STOP or too_large(configuration):
                    continue
                expected = plain_step(machine, configuration)
                if too_large(expected):
                    with self.assertRaises(TooLarge):
                        step(machine, configuration)
                else:
                    self.assertEqual(step(machine, configuration), expected)
                    self.assertIs(fits(machine, expected), True)

    def test_stopped(self):
        for configuration in [(STOP, 0, 0, ()), (STOP, 3, -2, (1, 0, 1)), (STOP, LIMIT, LIMIT, (1,) * 10000)]:
            with self.assertRaises(Stopped):
                step(TWO, configuration)

    def test_a_step_to_stop_is_one(self):
        self.assertEqual(step(parse("1RZ1RZ"), BLANK), (STOP, 1, 0, (1,)))

    def test_places_too_large(self):
        for machine, side in ((parse("1RA1RA"), 1), (parse("1LA1LA"), -1)):
            self.assertEqual(step(machine, (0, side * (LIMIT - 1), 0, ()))[1], side * LIMIT)
            with self.assertRaises(TooLarge):
                step(machine, (0, side * LIMIT, 0, ()))
            with self.assertRaises(TooLarge):
                step(machine, (0, side * LIMIT, side * LIMIT, (1,)))
        self.assertEqual(step(parse("1LA1LA"), (0, LIMIT, 0, ())), (0, LIMIT - 1, LIMIT, (1,)))
        self.assertEqual(step(parse("1RA1RA"), (0, -LIMIT, 0, ())), (0, 1 - LIMIT, -LIMIT, (1,)))
        # The step that stops is no exception.
        with self.assertRaises(TooLarge):
            step(parse("1RZ1RZ"), (0, LIMIT, 0, ()))

    def test_first_too_large(self):
        eraser = parse("1LA0LA")
        with self.assertRaises(TooLarge):
            step(eraser, (0, LIMIT, LIMIT, (1, 1)))
        with self.assertRaises(TooLarge):
            step(eraser, (0, LIMIT - 1, LIMIT - 1, (1, 0, 1)))
        self.assertEqual(step(eraser, (0, LIMIT - 1, LIMIT - 1, (1, 1, 1))), (0, LIMIT - 2, LIMIT, (1, 1)))
        self.assertEqual(step(eraser, (0, LIMIT, LIMIT, (1,))), (0, LIMIT - 1, 0, ()))
        self.assertEqual(step(parse("1RA0RA"), (0, -LIMIT, -LIMIT, (1, 1))), (0, 1 - LIMIT, 1 - LIMIT, (1,)))

    def test_cells_too_many(self):
        writer = parse("1RA1RA")
        for first in (0, -9999, LIMIT - 10005, -LIMIT):
            cells = (1,) + (0,) * 9997 + (1,)
            self.assertEqual(len(step(writer, (0, first + 9999, first, cells))[3]), 10000)
            with self.assertRaises(TooLarge):
                step(writer, (0, first + 10000, first, cells))
            full = (1,) * 10000
            self.assertEqual(step(writer, (0, first + 5, first, full))[3], full)
            with self.assertRaises(TooLarge):
                step(writer, (0, first + 10000, first, full))
        for first in (0, -9999, LIMIT - 5, 1 - LIMIT):
            with self.assertRaises(TooLarge):
                step(writer, (0, first - 1, first, (1,) * 10000))

    def test_the_head_far_from_the_cells(self):
        writer = parse("1RA1LA")
        self.assertEqual(step(writer, (0, 9999, 0, (1,))), (0, 10000, 0, (1,) + (0,) * 9998 + (1,)))
        self.assertEqual(step(writer, (0, -9999, 0, (1,))), (0, -9998, -9999, (1,) + (0,) * 9998 + (1,)))
        for place in (10000, -10000, LIMIT - 1, -LIMIT):
            with self.assertRaises(TooLarge):
                step(writer, (0, place, 0, (1,)))
        with self.assertRaises(TooLarge):
            step(writer, (0, -LIMIT, LIMIT, (1,)))
        self.assertEqual(step(parse("0RA1LA"), (0, -LIMIT, LIMIT, (1,))), (0, 1 - LIMIT, LIMIT, (1,)))


class Run(unittest.TestCase):
    def test_no_steps(self):
        for configuration in [BLANK, (1, 5, -2, (1, 0, 1)), (STOP, 5, -2, (1, 0, 1)), (0, LIMIT, LIMIT, (1,) * 10000)]:
            self.assertEqual(run(TWO, configuration, 0), (configuration, 0))

    def test_none_in_the_state_stop(self):
        for configuration in [(STOP, 0, 0, ()), (STOP, 5, -2, (1, 0, 1)), (STOP, LIMIT, -LIMIT, (1,))]:
            for count in (0, 1, 7, 100000):
                self.assertEqual(run(TWO, configuration, count), (configuration, 0))

    def test_fewer_steps_if_the_machine_stops(self):
        last = (STOP, 0, -2, (1, 1, 1, 1))
        for count in (6, 7, 100, 100000):
            self.assertEqual(run(machine=TWO, configuration=BLANK, count=count), (last, 6))
        self.assertEqual(run(TWO, BLANK, 5), ((1, -1, -2, (1, 1, 1, 1)), 5))
        self.assertEqual(run(TWO, BLANK, 1), ((1, 1, 0, (1,)), 1))

    def test_known_machines(self):
        cases = [
            ("1RB1RZ_1LB0RC_1LC1LA", 21, 5), ("1RB1LB_1LA0LC_1RZ1LD_1RD0RA", 107, 13), ("1RB2LB1RZ_2LA2RB1LB", 38, 9),
        ]
        for line, steps, marks in cases:
            configuration, done = run(parse(line), BLANK, 1000)
            self.assertEqual((configuration[0], done, ones(configuration)), (STOP, steps, marks))
            self.assertEqual(run(parse(line), BLANK, steps), (configuration, steps))
            self.assertEqual(run(parse(line), BLANK, steps - 1)[1], steps - 1)

    def test_each_run_is_that_of_the_document(self):
        numbers = Numbers(11)
        for machine in some_machines(12, 8):
            configuration = some_configuration(numbers, machine)
            count = numbers.below(60)
            result = run(machine, configuration, count)
            self.assertEqual(result, plain_run(machine, configuration, count))
            self.assertIs(fits(machine, result[0]), True)

    def test_runs_near_the_bounds(self):
        numbers = Numbers(13)
        raised = 0
        for machine in some_machines(14, 12):
            for near in (LIMIT - 8, -LIMIT + 4):
                configuration = some_configuration(numbers, machine, near)
                if too_large(configuration):
                    continue
                for count in (3, 10, 25):
                    expected = plain_run(machine, configuration, count)
                    if expected is None:
                        raised += 1
                        with self.assertRaises(TooLarge):
                            run(machine, configuration, count)
                    else:
                        self.assertEqual(run(machine, configuration, count), expected)
        self.assertGreater(raised, 100)

    def test_a_run_behind_a_run_is_one_run(self):
        numbers = Numbers(15)
        for machine in some_machines(16, 5):
            configuration = some_configuration(numbers, machine)
            middle, steps = run(machine, configuration, 17)
            last, more = run(machine, middle, 40)
            self.assertEqual(run(machine, configuration, 57), (last, steps + more))

    def test_a_run_is_its_steps(self):
        numbers = Numbers(17)
        for machine in some_machines(18, 3):
            configuration = some_configuration(numbers, machine)
            walk, done = configuration, 0
            while done < 30 and walk[0] != STOP:
                walk, done = step(machine, walk), done + 1
            self.assertEqual(run(machine, configuration, 30), (walk, done))

    def test_long_runs(self):
        for line in ["1RB2LA1RA1RA_1LB1LA3RB1RZ", "1RB1LA_1LA1RB", "1RB0LB_1LA0RA", "1LB1RA_0RA1LB", "1RB0RB_1LA0LA"]:
            machine = parse(line)
            last, steps = long_run(machine, BLANK, 100000)
            self.assertEqual(run(machine, BLANK, 100000), (last, steps))
            middle, before = run(machine, BLANK, 33333)
            self.assertEqual(run(machine, middle, 66667), (last, steps - before))

    def test_a_long_way_over_blanks(self):
        for line, side in (("0RA1RZ", 1), ("0LA1RZ", -1)):
            self.assertEqual(run(parse(line), BLANK, 100000), ((0, side * 100000, 0, ()), 100000))

    def test_places_too_large(self):
        for line, side in (("0RA0RA", 1), ("0LA0LA", -1)):
            machine = parse(line)
            for ahead in (0, 1, 5, 3000):
                start = (0, side * (LIMIT - ahead), 0, ())
                self.assertEqual(run(machine, start, ahead), ((0, side * LIMIT, 0, ()), ahead))
                with self.assertRaises(TooLarge):
                    run(machine, start, ahead + 1)
                with self.assertRaises(TooLarge):
                    run(machine, start, 100000)

    def test_a_place_on_the_way(self):
        # The head is beyond the bounds only for one step.
        for machine, side in ((parse("0RB0RZ_0LA0LZ"), 1), (parse("0LB0RZ_0RA0LZ"), -1)):
            self.assertEqual(run(machine, (0, side * (LIMIT - 1), 0, ()), 4)[1], 4)
            for count in (1, 2, 3, 4):
                with self.assertRaises(TooLarge):
                    run(machine, (0, side * LIMIT, 0, ()), count)

    def test_the_last_configuration_counts(self):
        for machine, side in ((parse("0RB0RZ_0RZ0RZ"), 1), (parse("0LB0RZ_0LZ0LZ"), -1)):
            start = (0, side * (LIMIT - 2), 0, ())
            self.assertEqual(run(machine, start, 9), ((STOP, side * LIMIT, 0, ()), 2))
            with self.assertRaises(TooLarge):
                run(machine, (0, side * (LIMIT - 1), 0, ()), 9)

    def test_first_on_the_way(self):
        # The only cell within the bounds becomes blank, and is written again two steps later.
        machine = parse("1RZ0LB_0RC0RC_1LZ1LZ")
        self.assertEqual(run(machine, (0, LIMIT - 1, LIMIT - 1, (1, 1)), 3)[0], (STOP, LIMIT - 2, LIMIT - 1, (1, 1)))
        self.assertEqual(run(machine, (0, LIMIT, LIMIT, (1,)), 3)[0], (STOP, LIMIT - 1, LIMIT, (1,)))
        for cells in ((1, 1), (1, 0, 0, 1), (1,) * 50):
            for count in (1, 2, 3, 9):
                with self.assertRaises(TooLarge):
                    run(machine, (0, LIMIT, LIMIT, cells), count)

    def test_first_too_large_behind_blanks(self):
        # The cells up to the bound become blank, one after the other.
        machine = parse("0RZ0LB_0RZ0LB")
        start = (0, LIMIT, LIMIT - 3, (1, 1, 1, 1, 1))
        self.assertEqual(run(machine, start, 3), ((1, LIMIT - 3, LIMIT - 3, (1, 0, 0, 0, 1)), 3))
        with self.assertRaises(TooLarge):
            run(machine, start, 4)

    def test_cells_too_many(self):
        for line, side in (("1RA1RA", 1), ("1LA1LA", -1)):
            machine = parse(line)
            first = 0 if side == 1 else -9999
            self.assertEqual(run(machine, BLANK, 10000), ((0, side * 10000, first, (1,) * 10000), 10000))
            for count in (10001, 10002, 100000):
                with self.assertRaises(TooLarge):
                    run(machine, BLANK, count)

    def test_cells_too_many_with_blanks_between(self):
        # The mark behind the blanks counts from the first cell on.
        machine = parse("0RB0RB_1RZ1RZ")
        cells = (1,) + (0,) * 9998 + (1,)
        self.assertEqual(run(machine, (0, 9998, 0, (1,)), 9), ((STOP, 10000, 0, cells), 2))
        with self.assertRaises(TooLarge):
            run(machine, (0, 9999, 0, (1,)), 9)
        machine = mirrored(machine)
        self.assertEqual(run(machine, (0, -9998, 0, (1,)), 9), ((STOP, -10000, -9999, cells), 2))
        with self.assertRaises(TooLarge):
            run(machine, (0, -9999, 0, (1,)), 9)

    def test_cells_on_the_way(self):
        # A mark is written behind the last cell, and taken away two steps later.
        machine = parse("1LB1LB_1RC1RC_0LZ0LZ")
        cells = (1,) * 9999
        self.assertEqual(run(machine, (0, 9999, 0, cells), 3), ((STOP, 9998, 0, cells), 3))
        for count in (1, 2, 3, 9):
            with self.assertRaises(TooLarge):
                run(machine, (0, 10000, 0, cells + (1,)), count)
        machine = mirrored(machine)
        self.assertEqual(run(machine, (0, -1, 0, cells), 3), ((STOP, 0, 0, cells), 3))
        for count in (1, 2, 3, 9):
            with self.assertRaises(TooLarge):
                run(machine, (0, -1, 0, cells + (1,)), count)

    def test_cells_that_leave_one_end_make_room_at_the_other(self):
        # The first cell is erased; then the head goes over all blanks to the last one, and writes on behind it.
        machine = parse("1RA0RB_0RB1RC_1RC1RC")
        start = (0, 0, 0, (1,) + (0,) * 9998 + (1,))
        self.assertEqual(run(machine, start, 10000), ((2, 10000, 9999, (1,)), 10000))
        self.assertEqual(run(machine, start, 19999), ((2, 19999, 9999, (1,) * 10000), 19999))
        with self.assertRaises(TooLarge):
            run(machine, start, 20000)

    def test_an_end_that_comes_and_goes(self):
        # The last cell becomes blank and is written again, in turn, far behind the first one.
        machine = parse("1LB0LB_0RA0RA")
        start = (0, 9999, 0, (1,) + (0,) * 9998 + (1,))
        turn = [start, (1, 9998, 0, (1,)), (0, 9999, 0, (1,)), (1, 9998, 0, start[3])]
        for count in (1, 2, 3, 4, 5, 99997, 99998, 99999, 100000):
            self.assertEqual(run(machine, start, count), (turn[count % 4], count))

    def test_full_tapes_that_move(self):
        # Each turn takes the first cell away before it writes one behind the last one.
        machine = parse("0RA0RB_1LC1RB_0RA1LC")
        for alike in (machine, mirrored(machine)):
            for many in (9999, 10000):
                first = 0 if alike == machine else 1 - many
                start = (0, 0, first, (1,) * many)
                result = run(alike, start, 65000)
                self.assertEqual(result, long_run(alike, start, 65000))
                self.assertGreaterEqual(len(result[0][3]), many - 1)

    def test_cells_beyond_the_farthest_place(self):
        machine = parse("0LB0LB_1RA1RA")
        start = (0, LIMIT - 1, LIMIT - 4, (1,) * 50)
        self.assertEqual(run(machine, start, 20000), ((0, LIMIT - 1, LIMIT - 4, (1, 1, 1, 0) + (1,) * 46), 20000))


class Alike(unittest.TestCase):
    def cases(self):
        numbers = Numbers(19)
        for machine in some_machines(20, 6):
            configuration = some_configuration(numbers, machine)
            yield numbers, machine, configuration, run(machine, configuration, 50)

    def test_mirrored_runs(self):
        for _, machine, configuration, (last, steps) in self.cases():
            result = run(mirrored(machine), mirrored_tape(configuration), 50)
            self.assertEqual(result, (mirrored_tape(last), steps))

    def test_shifted_runs(self):
        for numbers, machine, configuration, (last, steps) in self.cases():
            by = numbers.pick([1, -1, 37, -1000, LIMIT // 2, LIMIT - 100, 100 - LIMIT])
            result = run(machine, shifted(configuration, by), 50)
            self.assertEqual(result, (shifted(last, by), steps))

    def test_renamed_runs(self):
        for numbers, machine, configuration, (last, steps) in self.cases():
            states, symbols = some_naming(numbers, machine)
            start = renamed_configuration(configuration, states, symbols)
            result = run(renamed(machine, states, symbols), start, 50)
            self.assertEqual(result, (renamed_configuration(last, states, symbols), steps))

    def test_only_near_cells_are_seen_or_changed(self):
        for numbers, machine, configuration, _ in self.cases():
            state, place, first, cells = configuration
            count = numbers.below(6)
            last, _ = run(machine, configuration, count)
            for at in range(place - 30, place + 31):
                if abs(at - place) > count:
                    self.assertEqual(symbol_at(last, at), symbol_at(configuration, at))


class Calls(unittest.TestCase):
    def test_no_answer_depends_on_earlier_calls(self):
        machine = some_machine(Numbers(21), 3, 3)
        before = [run(THREE, BLANK, count) for count in range(40)]
        run(machine, BLANK, 500)
        run(TWO, (1, 3, -2, (1, 0, 1)), 500)
        for configuration in [(STOP, 0, 0, ()), (0, LIMIT, 0, ())]:
            with self.assertRaises((Stopped, TooLarge)):
                step(parse("0RA0RA"), configuration)
        self.assertEqual([run(THREE, BLANK, count) for count in range(40)], before)
        self.assertEqual(BLANK, (0, 0, 0, ()))


if __name__ == "__main__":
    unittest.main()
