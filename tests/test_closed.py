import unittest
from unittest import mock

from tacet import closed
from tacet.automata import find_small, gram
from tacet.closed import MOST_ELEMENTS, MOST_ROWS, close, is_automaton, is_right, reads
from tacet.errors import TooLarge
from tacet.machines import STOP, parse
from tacet.tapes import BLANK, run
from tests.proofs import plain_closed, plain_closure, plain_is_right, plain_reads, some_automaton
from tests.samples import Numbers, plain_step, settled, some_machine, some_machines, some_runner

ONE = ((0, 0),)
RIGHT = parse("1RA1RZ")
BASE = (ONE, ONE, ((0, 0), (0, 1)), ((0, 0),), ((0, 0, 0, 0),))
# A machine that goes to and fro, and one that counts: it has a closed set, but none with gram automata of 3 cells.
SWEEP = parse("1RB1LA_1LA1RB")
COUNT = parse("0RB0LA_1LA1RC_1RB1RZ")
OTHER_KINDS = (None, True, False, 0, 1, -1, 7, "", "abc", (), [], (1,), ("a",), [()], ((),), (((),),), (None, None))


def ring(rows, symbols):
    """An automaton that adds up the symbols that it reads."""
    return tuple(tuple((row + symbol) % rows for symbol in range(symbols)) for row in range(rows))


def star(rows, symbols):
    """An automaton in which the row 0 is behind each row."""
    return ((0,) * symbols,) * rows


def with_part(value, index, part):
    return value[:index] + (part,) + value[index + 1:]


def samples(seed, many):
    """Machines with two automata each, all of them small."""
    numbers = Numbers(seed)
    found = []
    for machine in some_machines(seed, many):
        symbols = len(machine[0])
        sides = [some_automaton(numbers, 1 + numbers.below(4), symbols) for _ in range(2)]
        found.append((machine, *sides))
    return found


def right_samples(seed, many):
    """Pairs of a machine and a closed set that is right for it."""
    pairs = [(machine, plain_closed(machine, left, right)) for machine, left, right in samples(seed, many)]
    return [(machine, value) for machine, value in pairs if value is not None]


class IsAutomaton(unittest.TestCase):
    def test_automata(self):
        self.assertEqual((MOST_ROWS, MOST_ELEMENTS), (64, 3000))
        for value, symbols in [
            (ONE, 2), (((0, 0, 0),), 3), (((0, 0, 0, 0),), 4), (((0, 1), (1, 0)), 2), (((0, 1), (0, 0)), 2),
            (((0, 2, 1), (2, 2, 2), (0, 1, 0)), 3), (ring(64, 2), 2), (ring(63, 4), 4),
        ]:
            self.assertIs(is_automaton(value, symbols), True)
            self.assertIs(is_automaton(value=value, symbols=symbols), True)
        numbers = Numbers(1)
        for rows in (1, 2, 5, 33, 64):
            for symbols in (2, 3, 4):
                self.assertIs(is_automaton(some_automaton(numbers, rows, symbols), symbols), True)

    def test_the_number_of_rows(self):
        for symbols in (2, 3, 4):
            for rows in (1, 2, 63, 64):
                self.assertIs(is_automaton(ring(rows, symbols), symbols), True)
            for rows in (0, 65, 66, 200):
                self.assertIs(is_automaton(ring(rows, symbols), symbols), False)

    def test_the_number_of_symbols(self):
        for rows in (1, 2, 64):
            for symbols in (2, 3, 4):
                for others in (2, 3, 4):
                    self.assertIs(is_automaton(ring(rows, symbols), others), symbols == others)
        for value in (((0, 1), (0,)), ((0, 1), (0, 1, 1)), ((0, 1), ()), ((0,), (0, 1)), ((0, 1, 1), (0, 1))):
            self.assertIs(is_automaton(value, 2), False)

    def test_row_numbers(self):
        for number in (-1, 2, 3, 64, True, False, None, "0", "1", (), (0,), [0]):
            self.assertIs(is_automaton(((0, number), (0, 0)), 2), False)
            self.assertIs(is_automaton(((0, 1), (number, 0)), 2), False)
            self.assertIs(is_automaton(((number, 1), (0, 0)), 2), False)
            self.assertIs(is_automaton(((0, 1), (0, number)), 2), False)
        self.assertIs(is_automaton(((0, 1),), 2), False)
        self.assertIs(is_automaton(with_part(ring(64, 2), 63, (0, 64)), 2), False)
        self.assertIs(is_automaton(with_part(ring(64, 2), 63, (0, 63)), 2), True)

    def test_behind_the_row_0_and_the_blank(self):
        self.assertIs(is_automaton(((1, 0), (0, 0)), 2), False)
        self.assertIs(is_automaton(((1, 1), (1, 1)), 2), False)
        self.assertIs(is_automaton(((0, 1), (1, 1)), 2), True)

    def test_other_kinds(self):
        for value in OTHER_KINDS:
            for symbols in (2, 3, 4):
                self.assertIs(is_automaton(value, symbols), False)
        for value in ([(0, 0)], ([0, 0],), [[0, 0]], "00", ("00",), ((0, 0), "00"), ((0, 0), None), ((0, 0), 0)):
            self.assertIs(is_automaton(value, 2), False)


class IsRight(unittest.TestCase):
    def test_right_ones(self):
        self.assertIs(is_right(RIGHT, BASE), True)
        self.assertIs(is_right(machine=RIGHT, value=BASE), True)
        for line in ("1RB1LA_1LA1RB", "0RB0LA_1LA1RC_1RB1RZ", "1RB1LA_1LC0LC_1RZ1RA"):
            self.assertIs(is_right(parse(line), find_small(parse(line), 3)), True)

    def test_each_condition_alone(self):
        # A mark is pushed to the right, and the head goes to and fro between it and the place 0.
        machine = parse("1RB1RZ_1LC1RB_1RZ1LD_0RZ1RB")
        for value in right_samples(2, 30):
            self.assertIs(is_right(*value), True)
        left, right, left_edges, right_edges, found = BASE
        self.assertIs(is_right(RIGHT, with_part(BASE, 2, ((0, 1),))), False)
        self.assertIs(is_right(RIGHT, with_part(BASE, 3, ())), False)
        self.assertIs(is_right(RIGHT, with_part(BASE, 4, ())), False)
        # The edge of the written symbol.
        self.assertIs(is_right(RIGHT, with_part(BASE, 2, ((0, 0),))), False)
        self.assertIs(is_right(parse("1LA1RZ"), (ONE, ONE, ((0, 0),), ((0, 0), (0, 1)), found)), True)
        self.assertIs(is_right(parse("1LA1RZ"), (ONE, ONE, ((0, 0),), ((0, 0),), found)), False)
        # An edge more on the side to which the head moves demands an element more, and its rule stops.
        self.assertIs(is_right(RIGHT, with_part(BASE, 3, ((0, 0), (0, 1)))), False)
        more = with_part(with_part(BASE, 3, ((0, 0), (0, 1))), 4, ((0, 0, 0, 0), (0, 0, 1, 0)))
        self.assertIs(is_right(RIGHT, more), False)
        self.assertIs(is_right(parse("1RA1RA"), more), True)
        self.assertIs(is_right(parse("1RA0LA"), more), True)
        # An edge more on the side that the head leaves demands nothing.
        self.assertIs(is_right(parse("0RA1RZ"), BASE), True)
        self.assertIs(is_right(machine, BASE), False)

    def test_without_one_part(self):
        # Of the least closed set, nothing can be left out.
        many = 0
        for machine, value in right_samples(3, 12):
            for index in (2, 3, 4):
                for at in range(len(value[index])):
                    less = value[index][:at] + value[index][at + 1:]
                    self.assertIs(is_right(machine, with_part(value, index, less)), False)
                    many += 1
        self.assertGreater(many, 1000)

    def test_with_a_part_more(self):
        answers = [0, 0]
        numbers = Numbers(4)
        for machine, value in right_samples(5, 12):
            left, right, symbols = value[0], value[1], len(machine[0])
            for _ in range(6):
                edge = (numbers.below(len(left)), numbers.below(symbols))
                other = (numbers.below(len(right)), numbers.below(symbols))
                quad = (numbers.below(len(left)), numbers.below(len(machine)), other[1], numbers.below(len(right)))
                for index, part in ((2, edge), (3, other), (4, quad)):
                    more = with_part(value, index, tuple(sorted({*value[index], part})))
                    expected = plain_is_right(machine, more)
                    self.assertIs(is_right(machine, more), expected)
                    answers[expected] += 1
        self.assertGreater(min(answers), 100)

    def test_greater_closed_sets(self):
        numbers = Numbers(6)
        many = 0
        for machine, left, right in samples(7, 20):
            seed = (numbers.below(len(left)), numbers.below(len(machine)), 0, numbers.below(len(right)))
            value = plain_closed(machine, left, right, [seed])
            if value is not None:
                many += seed not in plain_closed(machine, left, right)[4]
                self.assertIs(is_right(machine, value), True)
        self.assertGreater(many, 20)

    def test_stopping_rules(self):
        many = 0
        for machine, left, right in samples(8, 20):
            left_edges, right_edges, found = plain_closure(machine, left, right)
            value = (left, right, *[tuple(sorted(part)) for part in (left_edges, right_edges, found)])
            stops = any(machine[s][x][2] == STOP for _, s, x, _ in found)
            self.assertIs(is_right(machine, value), not stops)
            many += stops
        self.assertGreater(many, 100)

    def test_order_and_repetition(self):
        many = 0
        for machine, value in right_samples(9, 12):
            for index in (2, 3, 4):
                part = value[index]
                for at in range(len(part)):
                    again = part[:at + 1] + part[at:]
                    self.assertIs(is_right(machine, with_part(value, index, again)), False)
                    if at:
                        turned = part[:at - 1] + (part[at], part[at - 1]) + part[at + 1:]
                        self.assertIs(is_right(machine, with_part(value, index, turned)), False)
                        many += 1
                self.assertIs(is_right(machine, with_part(value, index, part + part[:1])), False)
        self.assertGreater(many, 1000)

    def test_parts_that_do_not_exist(self):
        machine = parse("1RA1RA")
        value = plain_closed(machine, ONE, ONE)
        for part in [(-1, 0), (1, 0), (0, -1), (0, 2), (0,), (0, 0, 0), (), None, 0, "00", [0, 1], (0, True), (False, 0)]:
            for index in (2, 3):
                for edges in ((part,), value[index] + (part,), (part,) + value[index]):
                    self.assertIs(is_right(machine, with_part(value, index, edges)), False)
        good = (0, 0, 0, 0)
        for at in range(4):
            for number in (-1, 2, 3, None, True, False, "0", (0,), [0]):
                for quads in ((with_part(good, at, number),), value[4] + (with_part(good, at, number),)):
                    self.assertIs(is_right(machine, with_part(value, 4, quads)), False)
        for quad in ((0, 0, 0), (0, 0, 0, 0, 0), (), [0, 0, 0, 0], "0000", None):
            self.assertIs(is_right(machine, with_part(value, 4, (good, quad))), False)
        self.assertIs(is_right(machine, with_part(value, 4, (good, (0, 1, 0, 0)))), False)
        self.assertIs(is_right(machine, with_part(value, 4, (good, (1, 0, 0, 0)))), False)
        self.assertIs(is_right(machine, with_part(value, 4, (good, (0, 0, 0, 1)))), False)

    def test_automata_for_other_symbols(self):
        for machine, value in right_samples(10, 6):
            for other in ("1RA1RA", "1RA1RA1RA", "1RA1RA1RA1RA"):
                if len(parse(other)[0]) != len(machine[0]):
                    self.assertIs(is_right(parse(other), value), False)
        for bad in (((0, 1),), ((1, 0), (0, 0)), ((0, 0, 0),), [(0, 0)], ((0, True), (0, 0)), None, ()):
            self.assertIs(is_right(RIGHT, with_part(BASE, 0, bad)), False)
            self.assertIs(is_right(RIGHT, with_part(BASE, 1, bad)), False)

    def test_64_and_65_rows(self):
        for rows, expected in ((1, True), (2, True), (63, True), (64, True), (65, False), (66, False)):
            self.assertIs(is_right(RIGHT, with_part(BASE, 0, star(rows, 2))), expected)
            self.assertIs(is_right(RIGHT, with_part(BASE, 1, star(rows, 2))), expected)

    def test_3000_and_3001_parts(self):
        # The rows of left beyond the first one are behind none, so no element with one of them is demanded.
        machine = parse("0RA1RA")
        left, right = star(64, 2), ring(64, 2)
        needed = plain_closed(machine, left, right, [(0, 0, x, r) for x in (0, 1) for r in range(64)])
        right_edges = tuple((q, y) for q in range(64) for y in (0, 1))
        free = [(l, 0, x, r) for l in range(1, 64) for x in (0, 1) for r in range(64)]
        base = [(0, 0, x, r) for x in (0, 1) for r in range(64)]
        left_edges = tuple((q, y) for q in range(64) for y in (0, 1))
        self.assertLessEqual(set(needed[4]), set(base))
        for many, expected in ((128, True), (2999, True), (3000, True), (3001, False), (3002, False), (6000, False)):
            quads = tuple(sorted(base + free[:many - 128]))
            value = (left, right, left_edges, right_edges, quads)
            self.assertEqual(len(quads), many)
            self.assertIs(is_right(machine, value), expected)
            self.assertIs(plain_is_right(machine, value) or many > 200, True)

    def test_other_kinds(self):
        for value in OTHER_KINDS + (list(BASE), BASE[:4], BASE + ((),), BASE[1:], (BASE,)):
            self.assertIs(is_right(RIGHT, value), False)
        for index in range(5):
            self.assertIs(is_right(RIGHT, with_part(BASE, index, list(BASE[index]))), False)
            for part in OTHER_KINDS:
                self.assertIs(is_right(RIGHT, with_part(BASE, index, part)), False)
        self.assertIs(is_right(RIGHT, with_part(BASE, 2, ((0, 0), [0, 1]))), False)

    def test_no_machine_with_a_closed_set_stops(self):
        for machine, _ in right_samples(11, 40):
            self.assertNotEqual(run(machine, BLANK, 1000)[0][0], STOP)


class Close(unittest.TestCase):
    def test_small_ones(self):
        self.assertEqual(close(RIGHT, ONE, ONE), BASE)
        self.assertEqual(close(machine=RIGHT, left=ONE, right=ONE), BASE)
        # The head comes back to what it wrote, in the row 1.
        machine = parse("1RB1LA_1LA1RB")
        self.assertIs(close(parse("1RB1LA_1LA1RZ"), ONE, ONE), None)
        self.assertEqual(close(machine, ONE, ONE)[4], tuple((0, s, x, 0) for s in (0, 1) for x in (0, 1)))

    def test_a_stopping_rule(self):
        self.assertIs(close(parse("1RZ1RZ"), ONE, ONE), None)
        # A stopping rule of which no element needs the symbol does not matter.
        self.assertEqual(close(parse("1RB1RZ_1RA1RZ"), ONE, ONE)[4], ((0, 0, 0, 0), (0, 1, 0, 0)))
        for machine in some_machines(12, 20):
            if run(machine, BLANK, 200)[0][0] == STOP:
                for count in range(3):
                    automaton = gram(count, len(machine[0]))
                    self.assertIs(close(machine, automaton, automaton), None)

    def test_the_least_in_the_words_of_the_document(self):
        answers = [0, 0]
        for machine, left, right in samples(13, 25):
            expected = plain_closed(machine, left, right)
            self.assertEqual(close(machine, left, right), expected)
            answers[expected is None] += 1
        self.assertGreater(min(answers), 100)

    def test_what_is_returned_is_right_and_contained_in_the_others(self):
        numbers = Numbers(14)
        many = 0
        for machine, left, right in samples(15, 25):
            value = close(machine, left, right)
            if value is None:
                continue
            self.assertIs(is_right(machine, value), True)
            seeds = [
                (numbers.below(len(left)), numbers.below(len(machine)), x, numbers.below(len(right))) for x in (0, 1)
            ]
            greater = plain_closed(machine, left, right, seeds)
            if greater is not None:
                self.assertIs(is_right(machine, greater), True)
                many += value != greater
                for index in (2, 3, 4):
                    self.assertLessEqual(set(value[index]), set(greater[index]))
        self.assertGreater(many, 10)

    def test_large_automata(self):
        numbers = Numbers(16)
        many = 0
        for _ in range(60):
            machine = some_runner(numbers, 3, 2)
            left, right = ring(12, 2), some_automaton(numbers, 9, 2)
            self.assertEqual(close(machine, left, right), plain_closed(machine, left, right))
            many += len(plain_closure(machine, left, right)[2]) > 20
        self.assertGreater(many, 4)

    def test_3000_and_3001_parts(self):
        for line, left, right, many in [
            ("1RB0LB_1LB1RA", 25, 30, 3000), ("0LB0LA_1RB1LA_1LB1RA", 33, 30, 3000), ("0RC0LA_0LC1RC_1LC1RB", 37, 39, 2999),
        ]:
            machine = parse(line)
            value = close(machine, ring(left, 2), ring(right, 2))
            self.assertEqual(len(value[4]), many)
            self.assertIs(is_right(machine, value), True)
        for line, left, right in [
            ("0RC1RA_1LB1RC_0LB1RB", 39, 37), ("0LB1LB_1RC1LC_0RB1LC", 30, 33), ("0RB0RD_0RD0RD_0LD1RB_1LC0RC", 25, 20),
        ]:
            with self.assertRaises(TooLarge):
                close(parse(line), ring(left, 2), ring(right, 2))
            with mock.patch.object(closed, "MOST_ELEMENTS", 3001):
                self.assertEqual(len(close(parse(line), ring(left, 2), ring(right, 2))[4]), 3001)

    def test_too_large_also_with_a_stopping_rule(self):
        for line, left, right in [("0RD0LD_1LA0RZ_0RZ1RC_0RB1RA", 20, 25), ("1RC0LC_1RA0RZ_1LA1RB", 25, 20)]:
            self.assertIs(close(parse(line), ring(left, 2), ring(right, 2)), None)
            with mock.patch.object(closed, "MOST_ELEMENTS", 2999):
                with self.assertRaises(TooLarge):
                    close(parse(line), ring(left, 2), ring(right, 2))
        with self.assertRaises(TooLarge):
            close(parse("1RB1RC1LB_2LB0RA2RB_1LB2RB2LZ"), ring(38, 3), ring(11, 3))
        with self.assertRaises(TooLarge):
            close(parse("1RC0LC_1RA0RZ_1LA1RB"), ring(64, 2), ring(64, 2))

    def test_too_large_exactly_beyond_the_bound(self):
        for machine, left, right in samples(17, 6):
            many = len(plain_closure(machine, left, right)[2])
            for limit in (many, many + 1):
                with mock.patch.object(closed, "MOST_ELEMENTS", limit):
                    self.assertEqual(close(machine, left, right), plain_closed(machine, left, right))
            for limit in (1, many - 1):
                if limit < many:
                    with mock.patch.object(closed, "MOST_ELEMENTS", limit):
                        with self.assertRaises(TooLarge):
                            close(machine, left, right)


class Reads(unittest.TestCase):
    def test_places(self):
        machine = parse("1RA1RA")
        value = close(machine, ring(5, 2), star(2, 2))
        for place in range(-3, 8):
            quad, belongs = reads(machine, value, (0, place, 1, (1, 0, 1, 1)))
            marks = sum(at < place for at in (1, 3, 4))
            self.assertEqual(quad, (marks, 0, 1 if place in (1, 3, 4) else 0, 0))
            # Behind a 1 there is never a blank.
            self.assertIs(belongs, False)
        self.assertEqual(reads(machine, value, (0, 5, 1, (1, 1, 1, 1))), ((4, 0, 0, 0), True))
        self.assertEqual(reads(machine, value, (0, 6, 1, (1, 1, 1, 1, 1))), ((0, 0, 0, 0), True))
        self.assertEqual(reads(machine=machine, closed_set=value, configuration=BLANK), ((0, 0, 0, 0), True))
        # The right side is read from far away, too.
        value = close(parse("1LA1LA"), star(2, 2), ring(5, 2))
        for place, marks in ((-3, 3), (1, 2), (2, 2), (3, 1), (4, 0), (9, 0)):
            self.assertEqual(reads(parse("1LA1LA"), value, (0, place, 1, (1, 0, 1, 1)))[0][3], marks)

    def test_the_order_of_the_cells(self):
        value = (gram(2, 2), gram(2, 2)) + plain_closed(parse("1RA1LA"), gram(2, 2), gram(2, 2))[2:]
        for place, quad in ((2, (2, 0, 1, 1)), (1, (1, 0, 0, 3)), (3, (1, 0, 1, 0)), (4, (3, 0, 0, 0)), (5, (2, 0, 0, 0))):
            self.assertEqual(reads(parse("1RA1LA"), value, (0, place, 0, (1, 0, 1, 1)))[0], quad)

    def test_in_the_words_of_the_document(self):
        numbers = Numbers(18)
        answers = [0, 0]
        for machine, value in right_samples(19, 15):
            for _ in range(10):
                tape = {at: numbers.below(len(machine[0])) for at in range(numbers.below(5))}
                state = numbers.below(len(machine))
                configuration = settled(state, numbers.below(9) - 2, tape)
                expected = plain_reads(value, configuration)
                self.assertEqual(reads(machine, value, configuration), expected)
                answers[expected[1]] += 1
        self.assertGreater(min(answers), 150)

    def test_steps_do_not_leave_the_closed_set(self):
        numbers = Numbers(20)
        many = 0
        for machine, value in right_samples(21, 15):
            for _ in range(6):
                tape = {at: numbers.below(len(machine[0])) for at in range(4)}
                configuration = settled(numbers.below(len(machine)), numbers.below(6) - 1, tape)
                if reads(machine, value, configuration)[1]:
                    many += 1
                    for _ in range(20):
                        configuration = plain_step(machine, configuration)
                        self.assertIs(reads(machine, value, configuration)[1], True)
        self.assertGreater(many, 100)

    def test_the_run_from_blank_belongs_to_it(self):
        for machine, value in right_samples(22, 10) + [(SWEEP, find_small(SWEEP, 3)), (COUNT, find_small(COUNT, 3))]:
            configuration = BLANK
            for _ in range(60):
                quad, belongs = reads(machine, value, configuration)
                self.assertIs(belongs, True)
                self.assertIn(quad, value[4])
                configuration = plain_step(machine, configuration)

    def test_an_edge_that_is_none(self):
        # All rows are one, so each pair of a row and a symbol tells only the symbol.
        machine = parse("1RA1RZ")
        for cells, expected in (((1, 1), True), ((1, 2, 1), False), ((2,), False), ((1, 0, 1), True)):
            value = ((0, 0, 0),), ((0, 0, 0),), ((0, 0), (0, 1)), ((0, 0),), ((0, 0, 0, 0),)
            self.assertIs(is_right(parse("1RA1RZ1RZ"), value), True)
            self.assertEqual(reads(machine, value, (0, 9, 0, cells)), ((0, 0, 0, 0), expected))
            self.assertEqual(reads(machine, value, (0, -1, 0, cells)), ((0, 0, 0, 0), False))

    def test_an_element_that_is_none(self):
        machine = parse("1RB1RZ_0RA1RZ")
        value = close(machine, ((0, 1), (0, 1)), ((0, 0),))
        self.assertEqual(reads(machine, value, (0, 1, 0, (1,))), ((1, 0, 0, 0), False))
        self.assertEqual(reads(machine, value, (1, 1, 0, (1,))), ((1, 1, 0, 0), True))
        self.assertEqual(reads(machine, value, (0, 2, 0, (1,))), ((0, 0, 0, 0), True))

    def test_far_places(self):
        machine = parse("0RA1RA")
        value = close(machine, ring(2, 2), ring(1, 2))
        many = (1,) * 10000
        for place, marks in ((-10000, 0), (-1, 0), (0, 0), (1, 1), (9999, 1), (10000, 0), (19999, 0), (15000, 0)):
            quad, belongs = reads(machine, value, (0, place, 0, many))
            self.assertEqual(quad, (marks, 0, 1 if 0 <= place < 10000 else 0, 0))
            self.assertIs(belongs, False)
        left = parse("1RB0RB_0RB0RB")
        value = close(left, ((0, 1), (0, 1)), ((0, 0),))
        for by in (-10 ** 9, 10 ** 9 - 10000, 0):
            for beside in (1, 2, 9999, 10000):
                quad, belongs = reads(left, value, (1, by + beside, by, (1,)))
                self.assertEqual(quad, (1 if beside == 1 else 0, 1, 0, 0))
                self.assertIs(belongs, True)
                self.assertEqual(reads(left, value, (1, by, by + beside, (1,)))[0], (0, 1, 0, 0))


class Calls(unittest.TestCase):
    def test_no_answer_depends_on_earlier_calls(self):
        def answers():
            return [(close(*sample), sample[0]) for sample in samples(23, 3)]

        first = answers()
        with self.assertRaises(TooLarge):
            close(parse("1RC0LC_1RA0RZ_1LA1RB"), ring(64, 2), ring(64, 2))
        self.assertEqual(answers(), first)
        self.assertTrue(all(value is None or is_right(machine, value) for value, machine in first))

    def test_machines_with_only_stopping_rules(self):
        numbers = Numbers(24)
        for _ in range(10):
            machine = some_machine(numbers, 1, 2)
            if machine[0][0][2] == STOP:
                self.assertIs(close(machine, ring(3, 2), ring(3, 2)), None)


if __name__ == "__main__":
    unittest.main()
