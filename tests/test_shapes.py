import unittest
from unittest import mock

from tacet import shapes, symbolic
from tacet.machines import STOP, mirrored, parse, renamed
from tacet.shapes import MOST_REPEATS, has_shape, is_shape, shape_tape
from tacet.symbolic import Symbolic, cross_word
from tacet.tapes import BLANK, fits, ones, run, shifted, symbol_at
from tests.proofs import plain_has_shape, plain_pass, plain_tape, some_shape
from tests.samples import Numbers, long_run, some_machines, some_naming, some_runner, with_rule

SWEEP = parse("1RB1LA_1LA1RB")
TWO = parse("1RB1LB_1LA1RZ")
# Machines, steps, and their shapes from these steps on: with one repeat and with two, mirrored or not.
# One copy is split off in those of the second part, two copies in those of the third one.
CROSSED = [
    ("1RB1LA_1LA1RB", 6, (False, 1, ((), (1,)), ((1, 1),), 1)),
    ("0RB1LA1RZ_1LA1RB1RZ", 4, (False, 1, ((), ()), ((1,),), 1)),
    ("0RB1RZ_1RC1LB_0LB1RC", 9, (True, 1, ((), ()), ((1,),), 2)),
    ("1RB1RZ_0RC1LD_1LB1RC_0LB0LC", 34, (False, 2, ((), (1,)), ((1, 1),), 3)),
    ("1RB3RB1LA1LA_1LB2RA1RZ0LA", 96, (False, 1, ((), (1, 2, 3, 2, 2, 3)), ((3, 2, 3, 2),), 2)),
]
SPLIT = [
    ("1RB0RA2LA_2LA1RZ2RB", 6, (False, 1, ((1,), ()), ((2,),), 1)),
    ("1RB1RZ2LA_2LB0RA0RB", 6, (False, 1, ((1,), ()), ((0,),), 1)),
    ("1RB2LA1RZ_0LB2LA1RB", 3, (True, 0, ((), ()), ((2,),), 1)),
    ("0RB1RZ_0LC1RB_1RD1LC_1LD1RB", 9, (True, 2, ((), ()), ((1,),), 2)),
    ("1RB2LA1RA_2LA1RZ0RA", 7, (False, 1, ((), (0,), (1,)), ((1,), (1,)), 1)),
    ("1RB1RZ0RB2LB_2LB1RA3RB2LA", 21, (False, 1, ((1,), (0,), ()), ((1,), (3, 3)), 1)),
    ("1RB2LA3LA1RZ_2LB2RA1RB0LA", 8, (True, 0, ((), (0,), ()), ((3,), (2,)), 1)),
    ("1RB3RA2LB1RZ_2LA1RB3LB2RB", 14, (False, 1, ((1,), ()), ((2,),), 3)),
    ("1RB3LA0LB1RZ_1LB2LA2RA0RA", 32, (True, 0, ((), (0, 0, 1), (2,)), ((3,), (2, 0)), 1)),
]
SPLIT_TWICE = [
    ("1RB0LD_1LC1RB_1RZ1LD_0RA1LD", 8, (False, 1, ((), ()), ((1,),), 2)),
    ("1RB3RA3LB1LA_2LA1LA1RZ3RB", 17, (False, 1, ((), ()), ((3, 3),), 2)),
    ("1RB1LA_0LC1RB_1RZ1LD_0RA1RA", 12, (True, 0, ((), ()), ((1,),), 2)),
    ("1RB3LB1RA2LA_2LA2LB1RA1RZ", 10, (True, 0, ((), (3,), ()), ((2,), (2,)), 2)),
    ("1RB2RB3LA2RA_2LA1RZ2RB1RA", 61, (False, 1, ((1, 2), (1,), (2, 2, 2)), ((2, 2), (2,)), 2)),
]
SHAPES = CROSSED + SPLIT + SPLIT_TWICE
# These return after exactly 1,000 and exactly 1,001 moves.
THOUSAND = ("0RB1LA_1LA1RB", 1225, (False, 1, ((1,) * 14, ()), ((1,) * 20,), 1))
TOO_MANY = [
    ("0RB1RZ_1LC1RB_1RB1LC", 1597, (False, 1, ((1,) * 24, (1,) * 10), ((1,) * 22,), 1)),
    ("1RB1LA_1LC1RB_1RZ1RA", 593, (False, 1, ((1,) * 11, ()), ((1,) * 22,), 1)),
]
OTHER_KINDS = (None, True, False, 0, 1, -1, "", "1", (), [], [1], (1,), ((),), (None,), ("1",), ((1,),), ([1],))


def with_part(value, index, part):
    return value[:index] + (part,) + value[index + 1:]


def step_of(machine, shape, number, most=4000):
    """The step after which the configuration with this number is passed, or None."""
    goal = shape_tape(shape, number)
    state, place, tape = 0, 0, {}
    for step in range(most):
        if state == goal[0] and sum(mark != 0 for mark in tape.values()) == ones(goal):
            after, _ = long_run(machine, BLANK, step)
            if shifted(after, -after[1]) == goal:
                return step
        if state == STOP:
            return None
        tape[place], move, state = machine[state][tape.get(place, 0)]
        place += move
    return None


class IsShape(unittest.TestCase):
    def test_shapes_of_machines(self):
        for line, _, shape in SHAPES + TOO_MANY + [THOUSAND]:
            self.assertIs(is_shape(parse(line), shape), True)
        self.assertIs(is_shape(machine=SWEEP, value=(False, 0, ((), ()), ((0,),), 1)), True)

    def test_all_that_are_made_at_random(self):
        numbers = Numbers(1)
        for machine in some_machines(2, 10):
            self.assertIs(is_shape(machine, some_shape(numbers, machine)), True)

    def test_words_of_24_and_25_symbols(self):
        for many, expected in ((0, True), (1, True), (23, True), (24, True), (25, False), (26, False), (100, False)):
            word = (1, 0) * (many // 2) + (1,) * (many % 2)
            for words in ((word, ()), ((), word), (word, word)):
                self.assertIs(is_shape(SWEEP, (True, 1, words, ((1,),), 3)), expected)
            for words in ((word, (), ()), ((), word, ()), ((), (), word), (word, word, word)):
                self.assertIs(is_shape(SWEEP, (True, 1, words, ((1,), (0,)), 3)), expected)
            if many:
                self.assertIs(is_shape(SWEEP, (False, 1, ((), ()), (word,), 3)), expected)
                self.assertIs(is_shape(SWEEP, (False, 1, ((), (), ()), (word, (1,)), 3)), expected)
                self.assertIs(is_shape(SWEEP, (False, 1, ((), (), ()), ((1,), word), 3)), expected)

    def test_empty_repeats(self):
        self.assertIs(is_shape(SWEEP, (False, 1, ((1,), (1,)), ((),), 3)), False)
        for repeats in (((), (1,)), ((1,), ()), ((), ())):
            self.assertIs(is_shape(SWEEP, (False, 1, ((1,), (1,), (1,)), repeats, 3)), False)

    def test_the_number_of_words_and_repeats(self):
        self.assertEqual(MOST_REPEATS, 2)
        for words in range(6):
            for repeats in range(5):
                value = (False, 0, ((1,),) * words, ((1,),) * repeats, 1)
                self.assertIs(is_shape(SWEEP, value), repeats in (1, 2) and words == repeats + 1)

    def test_first(self):
        for first in (1, 2, 19, 20):
            self.assertIs(is_shape(SWEEP, (False, 1, ((), ()), ((1,),), first)), True)
        for first in (0, -1, 21, 22, 1000, True, False, None, "1", (1,), [1]):
            self.assertIs(is_shape(SWEEP, (False, 1, ((), ()), ((1,),), first)), False)

    def test_the_state(self):
        for machine in some_machines(3, 1):
            for state in (-2, -1, 0, 1, 2, 3, 4):
                value = (False, state, ((), ()), ((1,),), 1)
                self.assertIs(is_shape(machine, value), 0 <= state < len(machine))
        for state in (True, False, None, "0", "A", (0,), STOP):
            self.assertIs(is_shape(SWEEP, (False, state, ((), ()), ((1,),), 1)), False)

    def test_symbols(self):
        for machine in some_machines(4, 1):
            symbols = len(machine[0])
            for symbol in (-1, 0, 1, 2, 3, 4, True, False, None, "1", (1,), [1]):
                expected = not isinstance(symbol, (bool, str, tuple, list)) and symbol in range(symbols)
                self.assertIs(is_shape(machine, (True, 0, ((symbol,), ()), ((1,),), 1)), expected)
                self.assertIs(is_shape(machine, (True, 0, ((), (1, 0, symbol)), ((1,),), 1)), expected)
                self.assertIs(is_shape(machine, (True, 0, ((), ()), ((1, symbol),), 1)), expected)
                self.assertIs(is_shape(machine, (True, 0, ((), (), ()), ((1,), (symbol, 1)), 1)), expected)

    def test_mirrored(self):
        for turned in (0, 1, -1, None, "", "True", (), (True,), [True]):
            self.assertIs(is_shape(SWEEP, (turned, 1, ((), ()), ((1,),), 1)), False)

    def test_lists_and_other_kinds(self):
        shape = (False, 1, ((1,), (0, 1)), ((1, 1),), 2)
        for value in OTHER_KINDS + (list(shape), shape[:4], shape[1:], shape + (1,), shape + shape):
            self.assertIs(is_shape(SWEEP, value), False)
        for index in range(5):
            for part in OTHER_KINDS + (list(shape[index]) if index in (2, 3) else [],):
                expected = (index == 0 and part in (True, False) and isinstance(part, bool)) or (
                    index in (1, 4) and part in (0, 1) and isinstance(part, int) and not isinstance(part, bool)
                    and not (index == 4 and part == 0)) or (index == 3 and part == ((1,),))
                self.assertIs(is_shape(SWEEP, with_part(shape, index, part)), expected, (index, part))
        self.assertIs(is_shape(SWEEP, with_part(shape, 2, ([1], (0, 1)))), False)
        self.assertIs(is_shape(SWEEP, with_part(shape, 2, ("1", (0, 1)))), False)
        self.assertIs(is_shape(SWEEP, with_part(shape, 3, ([1, 1],))), False)
        self.assertIs(is_shape(SWEEP, with_part(shape, 3, ("11",))), False)
        self.assertIs(is_shape(SWEEP, with_part(shape, 3, (1,))), False)


class ShapeTape(unittest.TestCase):
    def test_one_repeat(self):
        shape = (False, 1, ((1, 0), (1,)), ((0, 1, 1),), 4)
        self.assertEqual(shape_tape(shape, 0), (1, 0, -3, (1, 0, 1)))
        self.assertEqual(shape_tape(shape, 1), (1, 0, -6, (1, 0, 0, 1, 1, 1)))
        self.assertEqual(shape_tape(shape=shape, number=2), (1, 0, -9, (1, 0, 0, 1, 1, 0, 1, 1, 1)))

    def test_two_repeats(self):
        shape = (False, 2, ((2,), (1, 2), (3,)), ((1,), (0, 3)), 4)
        self.assertEqual(shape_tape(shape, 0), (2, 0, -4, (2, 1, 2, 3)))
        self.assertEqual(shape_tape(shape, 2), (2, 0, -10, (2, 1, 1, 1, 2, 0, 3, 0, 3, 3)))

    def test_mirrored(self):
        shape = (True, 1, ((1, 0), (1,)), ((0, 1, 1),), 4)
        self.assertEqual(shape_tape(shape, 0), (1, 0, 1, (1, 0, 1)))
        self.assertEqual(shape_tape(shape, 1), (1, 0, 1, (1, 1, 1, 0, 0, 1)))

    def test_blanks_at_the_ends(self):
        for turned, first in ((False, -4), (True, 3)):
            shape = (turned, 0, ((0, 0, 2), (0, 0)), ((0, 1),), 1)
            self.assertEqual(shape_tape(shape, 0), (0, 0, -3 if not turned else 3, (2,)))
            cells = (2, 0, 1) if not turned else (1, 0, 2)
            self.assertEqual(shape_tape(shape, 1), (0, 0, -5 if not turned else 3, cells))
        shape = (False, 0, ((1,), ()), ((0,),), 1)
        self.assertEqual(shape_tape(shape, 100), (0, 0, -101, (1,)))
        self.assertEqual(shape_tape(with_part(shape, 0, True), 100), (0, 0, 101, (1,)))

    def test_without_symbols_other_than_blanks(self):
        for turned in (False, True):
            for words in (((), ()), ((0, 0), (0,)), ((0,) * 24, ())):
                for number in (0, 1, 100):
                    self.assertEqual(shape_tape((turned, 1, words, ((0,),), 7), number), (1, 0, 0, ()))
            self.assertEqual(shape_tape((turned, 1, ((), ()), ((1,),), 7), 0), (1, 0, 0, ()))

    def test_in_the_words_of_the_document(self):
        numbers = Numbers(5)
        for machine in some_machines(6, 6):
            shape = some_shape(numbers, machine)
            for number in (0, 1, 2, 7, 50, 99, 100):
                configuration = shape_tape(shape, number)
                self.assertEqual(configuration, plain_tape(shape, number))
                self.assertIs(fits(machine, configuration), True)
                self.assertEqual(configuration[1], 0)
                self.assertEqual(symbol_at(configuration, 0), 0)

    def test_the_longest_tapes(self):
        word = (1,) * 24
        shape = (False, 0, (word, word, word), (word, word), 20)
        self.assertEqual(shape_tape(shape, 100), (0, 0, -4872, (1,) * 4872))
        self.assertEqual(shape_tape(with_part(shape, 0, True), 100), (0, 0, 1, (1,) * 4872))
        # The number may be greater than the first one of the shape, or less.
        self.assertEqual(shape_tape(shape, 3), (0, 0, -216, (1,) * 216))


class HasShape(unittest.TestCase):
    def test_shapes_of_machines(self):
        for line, start, shape in SHAPES:
            self.assertIs(has_shape(parse(line), start, shape), True)
            self.assertIs(has_shape(machine=parse(line), start=start, shape=shape), True)
            self.assertIs(plain_has_shape(parse(line), start, shape), True)

    def test_the_machine_passes_all_configurations(self):
        for line, start, shape in SHAPES:
            machine = parse(line)
            before = start - 1
            for number in range(shape[4], shape[4] + 6):
                step = step_of(machine, shape, number)
                self.assertGreater(step, before)
                if number == shape[4]:
                    self.assertEqual(step, start)
                before = step

    def test_from_another_step(self):
        for line, start, shape in SHAPES:
            for other in {0, 1, start - 2, start - 1, start + 1, start + 2, start + 7, 500, 1999, 2000} - {start, -1}:
                self.assertIs(has_shape(parse(line), other, shape), False)

    def test_from_the_step_of_a_later_number(self):
        for line, start, shape in SHAPES:
            machine = parse(line)
            for number in range(shape[4] + 1, 21):
                step = step_of(machine, shape, number, 2001)
                if step is not None:
                    later = with_part(shape, 4, number)
                    self.assertIs(has_shape(machine, step, later), True)
                    self.assertIs(has_shape(machine, step, shape), False)
                    self.assertIs(has_shape(machine, start, later), False)

    def test_the_smallest_and_the_greatest_first(self):
        shape = (False, 1, ((), (1,)), ((1, 1),), 1)
        self.assertEqual(step_of(SWEEP, shape, 1), 6)
        for first in (1, 2, 19, 20):
            step = step_of(SWEEP, shape, first)
            self.assertIs(has_shape(SWEEP, step, with_part(shape, 4, first)), True)
            for other in (first - 1, first + 1):
                self.assertIs(has_shape(SWEEP, step, with_part(shape, 4, other)), False)
        self.assertIs(has_shape(mirrored(SWEEP), step, with_part(with_part(shape, 4, 20), 0, True)), True)

    def test_another_part(self):
        for line, start, shape in SHAPES:
            machine = parse(line)
            turned, state, words, repeats, first = shape
            self.assertIs(has_shape(machine, start, with_part(shape, 0, not turned)), False)
            for other in set(range(len(machine))) - {state}:
                self.assertIs(has_shape(machine, start, with_part(shape, 1, other)), False)
            for other in {first - 1, first + 1, 20} - {0}:
                self.assertIs(has_shape(machine, start, with_part(shape, 4, other)), False)
            for index, parts in ((2, words), (3, repeats)):
                for at, word in enumerate(parts):
                    for symbol in range(1, len(machine[0])):
                        longer = with_part(parts, at, word + (symbol,))
                        self.assertIs(has_shape(machine, start, with_part(shape, index, longer)), False)
                    if len(word) > 1:
                        shorter = with_part(parts, at, word[1:])
                        self.assertIs(has_shape(machine, start, with_part(shape, index, shorter)), False)

    def test_with_parts_that_stand_for_the_same_tape(self):
        # The tape with the number first is the same, but not the next ones; or they are, too.
        answers = [0, 0]
        for line, start, (turned, state, words, repeats, first) in SHAPES:
            machine = parse(line)
            for more in (1, 2, 3):
                others = [
                    (turned, state, (words[0] + repeats[0] * first,) + words[1:], ((1,) * more,) + repeats[1:], 1),
                    (turned, state, (words[0] + repeats[0] * (first - 1),) + words[1:], repeats, 1),
                    (turned, state, ((0,) * more + words[0],) + words[1:], repeats, first),
                ]
                for other in others:
                    value = has_shape(machine, start, other)
                    self.assertIs(value, plain_has_shape(machine, start, other))
                    answers[value] += 1
        self.assertGreater(min(answers), 20)

    def test_blanks_in_front_of_the_first_word(self):
        for line, start, shape in SHAPES:
            for many in (1, 5):
                other = with_part(shape, 2, ((0,) * many + shape[2][0],) + shape[2][1:])
                self.assertIs(has_shape(parse(line), start, other), plain_has_shape(parse(line), start, other))
        self.assertIs(has_shape(SWEEP, 6, (False, 1, ((0, 0), (1,)), ((1, 1),), 1)), True)
        self.assertIs(has_shape(SWEEP, 6, (False, 1, ((), (1, 0)), ((1, 1),), 1)), False)

    def test_a_machine_that_has_stopped(self):
        for start in (0, 5, 6, 7, 2000):
            self.assertIs(has_shape(TWO, start, (False, 0, ((), ()), ((1,),), 1)), False)
        # After its last step, its tape is that of this shape.
        machine = parse("1RB1RZ_1RZ1RZ")
        self.assertEqual(run(machine, BLANK, 9)[0], (STOP, 2, 0, (1, 1)))
        for start in (0, 1, 2, 3, 2000):
            for state in (0, 1):
                for first in (1, 2):
                    self.assertIs(has_shape(machine, start, (False, state, ((), ()), ((1,),), first)), False)

    def test_no_machine_that_stops_has_a_shape(self):
        many = 0
        for machine in some_machines(7, 40):
            seen = [run(machine, BLANK, step)[0] for step in range(12)]
            if seen[-1][0] != STOP:
                continue
            for step, (state, place, first, cells) in enumerate(seen):
                if state == STOP or not cells or len(cells) > 20 or place < first + len(cells):
                    continue
                front = (0,) * (place - first - len(cells))
                for cut in range(len(cells)):
                    shape = (False, state, (cells[:cut], cells[cut + 1:] + front), (cells[cut:cut + 1],), 1)
                    self.assertIs(has_shape(machine, step, shape), False)
                    many += 1
        self.assertGreater(many, 50)

    def test_shapes_made_of_runs(self):
        # Each configuration of a run with blanks only to the right of the head, with each word of it as the repeat.
        answers = [0, 0]
        for machine in [parse(line) for line, _, _ in SHAPES] + [parse("1RB0LA_1LA1RB"), parse("1RB1RA_0LA1LB")]:
            for turned in (False, True):
                for step in range(14):
                    state, place, first, cells = run(mirrored(machine) if turned else machine, BLANK, step)[0]
                    if state == STOP or place < first + len(cells):
                        continue
                    tape = cells + (0,) * (place - first - len(cells))
                    for begin in range(len(tape)):
                        for end in range(begin + 1, min(begin + 4, len(tape) + 1)):
                            shape = (turned, state, (tape[:begin], tape[end:]), (tape[begin:end],), 1)
                            value = has_shape(machine, step, shape)
                            self.assertIs(value, plain_has_shape(machine, step, shape))
                            answers[value] += 1
        self.assertGreater(min(answers), 30)

    def test_two_repeats_made_of_runs(self):
        answers = [0, 0]
        for machine in [parse(line) for line, _, shape in SHAPES if len(shape[3]) == 2]:
            for turned in (False, True):
                for step in range(24):
                    state, place, first, cells = run(mirrored(machine) if turned else machine, BLANK, step)[0]
                    if state == STOP or place < first + len(cells) or len(cells) > 8:
                        continue
                    tape = cells + (0,) * (place - first - len(cells))
                    for one in range(len(tape)):
                        for other in range(one + 1, len(tape)):
                            words = (tape[:one], tape[one + 1:other], tape[other + 1:])
                            shape = (turned, state, words, (tape[one:one + 1], tape[other:other + 1]), 1)
                            value = has_shape(machine, step, shape)
                            self.assertIs(value, plain_has_shape(machine, step, shape))
                            answers[value] += 1
        self.assertGreater(min(answers), 10)

    def test_mirrored_and_renamed_machines(self):
        numbers = Numbers(8)
        for line, start, shape in SHAPES:
            machine = parse(line)
            turned, state, words, repeats, first = shape
            self.assertIs(has_shape(mirrored(machine), start, with_part(shape, 0, not turned)), True)
            self.assertIs(has_shape(mirrored(machine), start, shape), False)
            states, symbols = some_naming(numbers, machine)
            named = [tuple(tuple(symbols[x] for x in word) for word in part) for part in (words, repeats)]
            other = (turned, states[state], *named, first)
            self.assertIs(has_shape(renamed(machine, states, symbols), start, other), True)

    def test_a_copy_more_is_needed(self):
        # Two copies are split off on the way, so a shape that begins with one copy has no move there.
        for line, start, shape in SPLIT_TWICE:
            machine = parse(line)
            step = step_of(machine, shape, 1)
            if step is not None:
                less = with_part(shape, 4, 1)
                self.assertIs(has_shape(machine, step, less), False)
                self.assertIs(plain_has_shape(machine, step, less), False)
        self.assertTrue(any(step_of(parse(line), shape, 1) is not None for line, _, shape in SPLIT_TWICE))

    def test_a_block_of_no_copies_is_crossed(self):
        # In these, a block from which the only copy was split off is crossed later.
        many = 0
        for line, start, shape in SPLIT:
            if shape[4] == 1:
                many += 1
                self.assertIs(has_shape(parse(line), start, shape), True)
        self.assertGreater(many, 5)

    def test_1000_and_1001_moves(self):
        self.assertEqual(shapes.MOST_MOVES, 1000)
        self.assertIs(has_shape(parse(THOUSAND[0]), *THOUSAND[1:]), True)
        for line, start, shape in TOO_MANY:
            self.assertIs(has_shape(parse(line), start, shape), False)
            with mock.patch.object(shapes, "MOST_MOVES", 1001):
                self.assertIs(has_shape(parse(line), start, shape), True)
        with mock.patch.object(shapes, "MOST_MOVES", 999):
            self.assertIs(has_shape(parse(THOUSAND[0]), *THOUSAND[1:]), False)
        # One move is not enough for any shape of these, but three are for the first one.
        with mock.patch.object(shapes, "MOST_MOVES", 2):
            self.assertIs(has_shape(parse(CROSSED[1][0]), *CROSSED[1][1:]), False)
        with mock.patch.object(shapes, "MOST_MOVES", 3):
            self.assertIs(has_shape(parse(CROSSED[1][0]), *CROSSED[1][1:]), True)

    def test_500_steps_on_a_word(self):
        self.assertEqual(symbolic.MOST_INSIDE, 500)
        machine = parse("0LA2LB2LA_0LB1RA1RB")
        word = (2, 2, 2, 2, 2, 2, 1, 1, 1, 2, 1, 2, 2, 2, 2, 2, 1, 0, 1, 1, 2, 0)
        self.assertEqual(cross_word(machine, 1, word, -1), plain_pass(machine, 1, word, -1))
        self.assertIsNot(cross_word(machine, 1, word, -1), None)
        with mock.patch.object(symbolic, "MOST_INSIDE", 499):
            self.assertIs(cross_word(machine, 1, word, -1), None)
        machine = parse("0LA2LA3RA1RA_2RA0RA2LB2LA")
        word = (2, 1, 2, 2, 0, 2, 1, 1, 1, 2, 0, 2, 1, 1, 3, 3, 1, 0, 2, 0, 0)
        self.assertIs(cross_word(machine, 0, word, -1), None)
        with mock.patch.object(symbolic, "MOST_INSIDE", 501):
            self.assertIsNot(cross_word(machine, 0, word, -1), None)

    def test_the_steps_on_a_word_in_a_shape(self):
        # With another bound: as if the way through one copy were too long.
        line, start, shape = CROSSED[4]
        steps = [limit for limit in range(1, 30) if self.with_inside(limit, line, start, shape)]
        self.assertEqual(steps, list(range(steps[0], 30)))
        self.assertGreater(steps[0], 3)

    def with_inside(self, limit, line, start, shape):
        with mock.patch.object(symbolic, "MOST_INSIDE", limit):
            return has_shape(parse(line), start, shape)

    def test_crossing_one_word(self):
        numbers = Numbers(9)
        answers = [0, 0]
        for _ in range(3000):
            machine = some_runner(numbers, 1 + numbers.below(4), 2 + numbers.below(3))
            word = tuple(numbers.below(len(machine[0])) for _ in range(1 + numbers.below(6)))
            state, move = numbers.below(len(machine)), 2 * numbers.below(2) - 1
            value = cross_word(machine, state, word, move)
            self.assertEqual(value, plain_pass(machine, state, word, move))
            answers[value is None] += 1
        self.assertGreater(min(answers), 300)

    def test_random_shapes(self):
        numbers = Numbers(10)
        for machine in some_machines(11, 8):
            shape = some_shape(numbers, machine)
            for start in (0, 1, 5, 30):
                self.assertIs(has_shape(machine, start, shape), plain_has_shape(machine, start, shape))

    def test_counters_and_loops_have_none_of_these(self):
        # A counter passes the tapes of 1, 2, 3, .. marks, but after more and more steps.
        machine = parse("0RB0LA_1LA1RB_1RZ1RZ")
        for first in range(1, 7):
            shape = (False, 1, ((), ()), ((1,),), first)
            step = step_of(machine, shape, first)
            self.assertIs(has_shape(machine, step, shape), False)
        # A machine that leaves marks behind it passes them one after the other.
        machine = parse("1RA1RZ")
        for first in (1, 7, 20):
            self.assertIs(has_shape(machine, first, (False, 0, ((), ()), ((1,),), first)), True)
            self.assertIs(has_shape(machine, 2 * first, (False, 0, ((), ()), ((1, 1),), first)), True)
        self.assertIs(has_shape(machine, 2000, (False, 0, ((), ()), ((1,),), 20)), False)

    def test_the_last_step_that_may_be_looked_at(self):
        for start, first in ((2000, 3), (1999, 2), (2001, 3)):
            machine = parse("0RA1RZ")
            # The tape stays blank, and so are the tapes of the shape.
            self.assertIs(has_shape(machine, start, (False, 0, ((), ()), ((0,),), first)), True)


class Moves(unittest.TestCase):
    def test_a_copy_is_split_off_or_there_is_no_move(self):
        # The head comes back from the word at once, so it is not crossed.
        machine = parse("0LB1RZ2RA_0RA1RA0RA")
        for first in (1, 2, 20):
            for more in (-2, -1, 0, 1):
                symbolic = Symbolic(machine, 0, [2, ((1, 2), more)], first)
                if first + more >= 1:
                    self.assertIs(symbolic.proceed(), True)
                    self.assertEqual((symbolic.state, symbolic.symbol), (1, 2))
                    self.assertEqual((symbolic.left, symbolic.right), ([2, ((1, 2), more - 1), 1], [0]))
                else:
                    self.assertIs(symbolic.proceed(), False)

    def test_a_block_of_no_copies_is_crossed(self):
        machine = parse("0LB1RZ1RZ_2LB2LB1LB")
        for more in (-3, 0):
            symbolic = Symbolic(machine, 0, [1, 2, ((1, 2), more), ((0,), 1)], 3)
            self.assertIs(symbolic.proceed(), True)
            self.assertEqual((symbolic.state, symbolic.symbol), (1, 2))
            self.assertEqual((symbolic.left, symbolic.right), ([1], [0, ((2,), 1), ((2, 1), more)]))
            # And to the left of all items there are blanks.
            for symbol in (1, 0):
                self.assertIs(symbolic.proceed(), True)
                self.assertEqual(symbolic.symbol, symbol)

    def test_the_first_symbols_on_both_sides(self):
        machine = parse("0LB1RZ1RZ_1RB2LA1RB")
        symbolic = Symbolic(machine, 0, [((1, 2), 0)], 1)
        symbolic.right = [((2, 0, 1), 0), 1]
        self.assertIs(symbolic.proceed(), True)
        self.assertEqual((symbolic.left, symbolic.symbol, symbolic.right), ([((1, 2), -1), 1], 2, [((2, 0, 1), 0), 1, 0]))
        for symbol in (0, 1):
            self.assertIs(symbolic.proceed(), True)
            self.assertEqual(symbolic.symbol, symbol)

    def test_a_stopping_rule(self):
        symbolic = Symbolic(parse("1RZ1RA"), 0, [1], 1)
        self.assertIs(symbolic.proceed(), False)
        answers = [0, 0]
        for line, start, shape in SHAPES:
            machine = parse(line)
            for state, row in enumerate(machine):
                for symbol, (write, move, _) in enumerate(row):
                    other = with_rule(machine, state, symbol, (write, move, STOP))
                    value = has_shape(other, start, shape)
                    self.assertIs(value, plain_has_shape(other, start, shape))
                    answers[run(other, BLANK, start)[0][0] == STOP] += 1
                    self.assertFalse(value and other != machine and run(other, BLANK, 2000)[0][0] == STOP)
        self.assertGreater(min(answers), 20)

    def test_all_numbers_are_compared(self):
        # The cells are those of the shape for the first two numbers, and then no more.
        for first in (1, 5, 20):
            shape = (False, 0, ((), ()), ((1, 0, 0),), first)
            last = [1, 0, 0] * (first + 1)
            symbolic = Symbolic(SWEEP, 0, [((1,), -first), ((0,), 1 - first)] + last, first)
            for more in (0, 1, 2):
                wanted = (1, 0, 0) * (first + more + 1)
                self.assertEqual(shapes.without_blanks(symbolic.left_cells(first + more)) == wanted, more < 2)
            self.assertIs(shapes._is_next(symbolic, shape), False)
            symbolic = Symbolic(SWEEP, 0, [0, ((1, 0, 0), 0), 1, 0, 0], first)
            self.assertIs(shapes._is_next(symbolic, shape), True)

    def test_how_many_numbers_are_compared(self):
        for repeats, many in ((((1,),), 4), (((1,), (1,)), 8)):
            shape = (False, 0, ((),) * (len(repeats) + 1), repeats, 3)
            symbolic = Symbolic(SWEEP, 0, [(word, 1) for word in repeats], 3)
            asked = []
            symbolic.left_cells = lambda number: asked.append(number) or (1,) * (len(repeats) * (number + 1))
            self.assertIs(shapes._is_next(symbolic, shape), True)
            self.assertEqual(asked, list(range(3, 3 + many)))


class Calls(unittest.TestCase):
    def test_no_answer_depends_on_earlier_calls(self):
        def answers():
            return [has_shape(parse(line), start + more, shape) for line, start, shape in SHAPES for more in (0, 1)]

        first = answers()
        self.assertEqual(first, [True, False] * len(SHAPES))
        has_shape(parse(TOO_MANY[0][0]), *TOO_MANY[0][1:])
        self.assertEqual(answers(), first)


if __name__ == "__main__":
    unittest.main()
