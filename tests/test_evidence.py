import unittest
from unittest import mock

from tacet import evidence as evidence_module
from tacet.automata import find_grams, find_small, gram
from tacet.backward import find_dead_end, level
from tacet.closed import close, is_right
from tacet.errors import BadText, TooLarge
from tacet.evidence import evidence_text, is_evidence, mirrored_evidence, read_evidence, shows
from tacet.loops import find_loop, is_loop
from tacet.machines import STOP, mirrored, parse, renamed
from tacet.shapes import has_shape
from tacet.tapes import BLANK, run
from tests.proofs import plain_is_right, plain_read, plain_text, some_evidence
from tests.samples import Numbers, plain_is_loop, some_machines
from tests.test_backward import JUST_SMALL
from tests.test_closed import BASE, COUNT, RIGHT, right_samples, with_part
from tests.test_loops import PLAIN_LOOPS
from tests.test_shapes import SHAPES, SWEEP

TWO = parse("1RB1LB_1LA1RZ")
SHAPE = (False, 1, ((1,), (0, 1)), ((1, 1),), 2)
EXAMPLE = "closed 1 2 0 0 1 2 0 0 2 0 0 0 1 1 0 0 1 0 0 0 0"
OTHERS = (None, True, False, -1, "0", "", (), (0,), [0], [], "stop")
STOPS = [("1RZ1RZ", 1), ("1RB1LB_1LA1RZ", 6), ("1RB1RZ_1LB0RC_1LC1LA", 21), ("1RB1LB_1LA0LC_1RZ1LD_1RD0RA", 107)]
LONG_STOPS = [
    ("1LB0LD1RZ1RC_2RA1RB3LC1LC_2RD2LB3RD1RD_0RA3LD3RA1RA", 513), ("1RD1LB1LD_2RC1LA1RZ_2RD0LA0LC_1LA0RB2LA", 947),
    ("3LC3RB3RD3LB_2LA3LD0RD1LC_1RD1RZ1LB2LD_1LC3RB1LB2RA", 1362), ("2LC2RB3RD1RA_3LC1LC1LD1RB_1RB3LA3RB2LD_1RZ3LC1RD1RC", 1903),
]


def samples():
    """Pairs of a machine and evidence that shows something for it."""
    found = [(parse(line), ("stop", steps)) for line, steps in STOPS + LONG_STOPS]
    found += [(parse(line), ("loop",) + loop) for line, loop in PLAIN_LOOPS]
    found += [(machine, ("closed", value)) for machine, value in right_samples(1, 4)]
    found += [(parse(line), ("shape", start, shape)) for line, start, shape in SHAPES]
    for machine in some_machines(2, 40):
        number = find_dead_end(machine, 6)
        if number:
            found.append((machine, ("back", number)))
    return found


class IsEvidence(unittest.TestCase):
    def test_each_form(self):
        closed_set = close(RIGHT, gram(0, 2), gram(0, 2))
        for value in [
            ("stop", 0), ("stop", 7), ("loop", 0, 1, True), ("loop", 5, 3, False), ("back", 0), ("closed", closed_set),
            ("shape", 0, SHAPE),
        ]:
            self.assertIs(is_evidence(value), True)
            self.assertIs(is_evidence(value=value), True)
            # Each part left out, or twice, or one more.
            for at in range(len(value)):
                self.assertIs(is_evidence(value[:at] + value[at + 1:]), False)
                self.assertIs(is_evidence(value[:at] + value[at:at + 1] + value[at:]), False)
            for more in OTHERS + (0, 1):
                self.assertIs(is_evidence(value + (more,)), False)
            self.assertIs(is_evidence(list(value)), False)
            self.assertIs(is_evidence((value,)), False)
            for kind in OTHERS[:-1] + ("Stop", "stop ", "loops", "close", "none", ("stop",)):
                self.assertIs(is_evidence((kind,) + value[1:]), False)
        for value in OTHERS + ((1, 2), ("stop",), ("loop", 1), (0, "stop"), [("stop", 1)], "stop 1"):
            self.assertIs(is_evidence(value), False)

    def test_the_form_of_another_kind(self):
        parts = {
            "stop": (3,), "back": (3,), "loop": (1, 2, True), "closed": (BASE,), "shape": (4, SHAPE),
        }
        for kind in parts:
            for other in parts:
                expected = kind == other or {kind, other} == {"stop", "back"}
                self.assertIs(is_evidence((kind,) + parts[other]), expected)

    def test_numbers(self):
        for number in (0, 1, 2, 20, 21, 300, 1999, 2000):
            for value in (("stop", number), ("back", number), ("loop", number, 9, True), ("loop", 9, number, False),
                          ("shape", number, SHAPE)):
                self.assertIs(is_evidence(value), True)
        for number in OTHERS + (-2, 2001, 2002, 10 ** 6, 10 ** 30):
            for value in (("stop", number), ("back", number), ("loop", number, 9, True), ("loop", 9, number, False),
                          ("shape", number, SHAPE)):
                self.assertIs(is_evidence(value), False)

    def test_the_side_of_a_loop(self):
        for right in (0, 1, 2, None, "", "True", (), (True,)):
            self.assertIs(is_evidence(("loop", 1, 2, right)), False)

    def test_closed_sets(self):
        for value in [
            BASE, ((), (), (), (), ()), (((),), ((), (1, 2, 3)), ((5, 5),), (), ((9, 9, 9, 9),)),
            (((0,) * 99,), (), ((3, 1), (1, 3), (3, 1)), ((0, 0),) * 9, ((1, 2, 3, 4), (0, 0, 0, 0))),
            (((0,),) * 100, (), (), (), ((7, 8, 9, 10),) * 4000),
        ]:
            self.assertIs(is_evidence(("closed", value)), True)
        for index, part in ((0, (1, 2)), (1, (1, 2)), (2, (1, 2)), (3, (1, 2)), (4, (1, 2, 3, 4))):
            for at in range(len(part)):
                for number, expected in (
                    (0, True), (1000000, True), (1000001, False), (10 ** 9, False), (-1, False), (True, False),
                    (False, False), (None, False), ("1", False), ((1,), False), ([1], False),
                ):
                    value = with_part(BASE, index, (part, with_part(part, at, number)))
                    self.assertIs(is_evidence(("closed", value)), expected)
        for index in range(5):
            for part in OTHERS[:6] + ([],):
                self.assertIs(is_evidence(("closed", with_part(BASE, index, part))), False)
            self.assertIs(is_evidence(("closed", with_part(BASE, index, list(BASE[index])))), False)
            for row in (None, 0, "", "00", [0, 0], [0, 0, 0, 0]):
                self.assertIs(is_evidence(("closed", with_part(BASE, index, BASE[index] + (row,)))), False)
        for index, long in ((2, 2), (3, 2), (4, 4)):
            for other in range(7):
                value = with_part(BASE, index, BASE[index] + ((0,) * other,))
                self.assertIs(is_evidence(("closed", value)), other == long)
        for value in OTHERS + (list(BASE), BASE[:4], BASE + ((),)):
            self.assertIs(is_evidence(("closed", value)), False)

    def test_shapes(self):
        for many, expected in ((0, True), (24, True), (25, False)):
            self.assertIs(is_evidence(("shape", 0, with_part(SHAPE, 2, ((1,) * many, ())))), expected)
            if many:
                self.assertIs(is_evidence(("shape", 0, with_part(SHAPE, 3, ((1,) * many,)))), expected)
        for number, expected in (
            (0, True), (1, True), (2, True), (3, True), (4, False), (-1, False), (True, False), (None, False), ("1", False),
        ):
            self.assertIs(is_evidence(("shape", 0, with_part(SHAPE, 1, number))), expected)
            self.assertIs(is_evidence(("shape", 0, with_part(SHAPE, 2, ((1, number), ())))), expected)
            self.assertIs(is_evidence(("shape", 0, with_part(SHAPE, 3, ((1, number),)))), expected)
        for first, expected in ((0, False), (1, True), (20, True), (21, False), (True, False), (None, False)):
            self.assertIs(is_evidence(("shape", 0, with_part(SHAPE, 4, first))), expected)
        for turned in (0, 1, None, "True"):
            self.assertIs(is_evidence(("shape", 0, with_part(SHAPE, 0, turned))), False)
        for index in (2, 3):
            for part in OTHERS:
                self.assertIs(is_evidence(("shape", 0, with_part(SHAPE, index, part))), False)
            self.assertIs(is_evidence(("shape", 0, with_part(SHAPE, index, list(SHAPE[index])))), False)
        self.assertIs(is_evidence(("shape", 0, with_part(SHAPE, 3, ((),)))), False)
        for value in OTHERS + (list(SHAPE), SHAPE[:4], SHAPE + (1,)):
            self.assertIs(is_evidence(("shape", 0, value)), False)

    def test_all_that_are_made_at_random(self):
        numbers = Numbers(3)
        for _ in range(500):
            self.assertIs(is_evidence(some_evidence(numbers)), True)


class Shows(unittest.TestCase):
    def test_stop(self):
        for line, steps in STOPS:
            machine = parse(line)
            for number in (0, 1, steps - 1, steps, steps + 1, 2 * steps, 1999, 2000):
                self.assertEqual(shows(machine, ("stop", number)), "stops" if number == steps else "")
        self.assertEqual(shows(machine=TWO, evidence=("stop", 6)), "stops")
        for number in (0, 1, 6, 2000):
            self.assertEqual(shows(SWEEP, ("stop", number)), "")
        for number in (-1, 2001, 10 ** 6):
            self.assertEqual(shows(TWO, ("stop", number)), "")

    def test_a_stop_after_many_steps(self):
        for line, steps in LONG_STOPS:
            for number in (steps - 1, steps, steps + 1, 2000):
                self.assertEqual(shows(parse(line), ("stop", number)), "stops" if number == steps else "")
        # This one stops after 3,932,964 steps.
        for number in (1, 1999, 2000, 2001):
            self.assertEqual(shows(parse("1RB2LA1RA1RA_1LB1LA3RB1RZ"), ("stop", number)), "")
        # With another bound, just below and at the number of steps.
        for limit, expected in ((20, ""), (21, "stops"), (22, "stops")):
            with mock.patch.object(evidence_module, "MOST_LOOK", limit):
                self.assertEqual(shows(parse("1RB1RZ_1LB0RC_1LC1LA"), ("stop", 21)), expected)

    def test_loop(self):
        for line, (first, second, right) in PLAIN_LOOPS:
            machine = parse(line)
            for by in (0, 1, 1000, 2000 - second):
                self.assertEqual(shows(machine, ("loop", first + by, second + by, right)), "runs")
            for side in (True, False):
                for pair in ((0, second + 1), (1, 0), (2, 2), (0, 0), (2000, 2000), (2000, 0), (1, 2000), (0, 1999)):
                    expected = "runs" if pair[0] < pair[1] and plain_is_loop(machine, *pair, side) else ""
                    self.assertEqual(shows(machine, ("loop", *pair, side)), expected)
        self.assertEqual(shows(RIGHT, ("loop", 2000, 2001, True)), "")
        self.assertEqual(shows(RIGHT, ("loop", 0, 2000, True)), "runs")
        self.assertEqual(shows(RIGHT, ("loop", 0, 2000, False)), "")
        self.assertEqual(shows(TWO, ("loop", 0, 2000, True)), "")
        for machine in some_machines(4, 2):
            for first, second in ((0, 1), (0, 2), (3, 7), (10, 16), (7, 3)):
                for right in (True, False):
                    expected = "runs" if is_loop(machine, first, second, right=right) else ""
                    self.assertEqual(shows(machine, ("loop", first, second, right)), expected)

    def test_back(self):
        answers = {"": 0, "runs": 0}
        for machine in some_machines(5, 12):
            for depth in (0, 1, 2, 3, 6, 20):
                try:
                    expected = "runs" if not level(machine, depth) else ""
                except TooLarge:
                    expected = ""
                if run(machine, BLANK, depth)[0][0] == STOP:
                    expected = ""
                self.assertEqual(shows(machine, ("back", depth)), expected)
                answers[expected] += 1
        self.assertGreater(min(answers.values()), 30)

    def test_back_beyond_the_deepest_level(self):
        machine = parse("0RA0RA")
        for depth, expected in ((0, "runs"), (19, "runs"), (20, "runs"), (21, ""), (22, ""), (2000, ""), (2001, "")):
            self.assertEqual(shows(machine, ("back", depth)), expected)
        machine = parse("0RA1RA_0RZ0RD_1LB0LB_1LC1RD")
        for depth, expected in ((12, ""), (13, "runs"), (20, "runs"), (21, "")):
            self.assertEqual(shows(machine, ("back", depth)), expected)
        for depth in (7, 8, 9, 20):
            self.assertEqual(shows(parse(JUST_SMALL[0]), ("back", depth)), "")

    def test_back_with_a_machine_that_stops(self):
        machine = parse("1RZ0RB_0RB1RB")
        for depth in range(21):
            self.assertEqual(shows(machine, ("back", depth)), "")
        # The level 1 is empty, and the machine stops after 1 step: the level 0 says nothing, and neither do later ones.
        self.assertEqual(level(machine, 1), [])

    def test_closed(self):
        for machine, value in right_samples(6, 6):
            self.assertEqual(shows(machine, ("closed", value)), "runs")
            for index in (2, 3, 4):
                for part in (value[index][1:], value[index][:-1], value[index][::-1], value[index] * 2):
                    other = with_part(value, index, part)
                    expected = "runs" if is_right(machine, other) else ""
                    self.assertEqual(shows(machine, ("closed", other)), expected)
        for machine in (SWEEP, COUNT):
            value = find_small(machine, 3)
            self.assertEqual(shows(machine, ("closed", value)), "runs")
            self.assertEqual(shows(TWO, ("closed", value)), "")
        for value in (((), (), (), (), ()), (((),), ((),), (), (), ()), with_part(BASE, 0, ((0, 0, 0),))):
            self.assertEqual(shows(RIGHT, ("closed", value)), "")
        self.assertEqual(shows(RIGHT, ("closed", BASE)), "runs")
        self.assertEqual(shows(parse("1RA1RZ1RZ"), ("closed", BASE)), "")

    def test_shape(self):
        for line, start, shape in SHAPES:
            machine = parse(line)
            self.assertEqual(shows(machine, ("shape", start, shape)), "runs")
            for other in (start + 1, start - 1, 0, 2000):
                if other != start:
                    self.assertEqual(shows(machine, ("shape", other, shape)), "")
            self.assertEqual(shows(machine, ("shape", start, with_part(shape, 0, not shape[0]))), "")
            self.assertEqual(shows(TWO, ("shape", start, shape)), "")
        self.assertEqual(shows(SWEEP, ("shape", 2001, SHAPES[0][2])), "")
        for machine in some_machines(7, 1):
            for start in range(5):
                shape = (False, 0, ((), ()), ((0,),), 1)
                expected = "runs" if has_shape(machine, start, shape) else ""
                self.assertEqual(shows(machine, ("shape", start, shape)), expected)

    def test_shapes_with_other_states_and_symbols(self):
        for line, start, shape in SHAPES:
            machine = parse(line)
            for number in range(4):
                for other in (
                    with_part(shape, 1, number), with_part(shape, 3, ((number,),) + shape[3][1:]),
                    with_part(shape, 2, shape[2][:-1] + (shape[2][-1] + (number,),)),
                ):
                    fits = other[1] < len(machine) and max(
                        [symbol for word in other[2] + other[3] for symbol in word] + [0]) < len(machine[0])
                    expected = "runs" if fits and has_shape(machine, start, other) else ""
                    self.assertEqual(shows(machine, ("shape", start, other)), expected)

    def test_values_that_are_no_evidence(self):
        for value in OTHERS + (("stop",), ("stop", True), ("loop", 0, 1, 1), ("closed", list(BASE)), ["stop", 6]):
            self.assertEqual(shows(TWO, value), "")
            self.assertEqual(shows(RIGHT, value), "")
        self.assertEqual(shows(parse("1RZ1RZ"), ("stop", True)), "")

    def test_random_evidence_shows_nothing_false(self):
        numbers = Numbers(8)
        for machine in some_machines(9, 5):
            stops = run(machine, BLANK, 2000)[0][0] == STOP
            for _ in range(4):
                shown = shows(machine, some_evidence(numbers))
                self.assertIn(shown, ("", "stops" if stops else "runs"))

    def test_no_machine_has_evidence_of_both(self):
        machines = [parse(line) for line, _ in STOPS] + some_machines(10, 10)
        for machine in machines:
            if run(machine, BLANK, 2000)[0][0] != STOP:
                continue
            for first, second in ((0, 1), (0, 2), (1, 2), (3, 5), (10, 20)):
                for right in (True, False):
                    self.assertEqual(shows(machine, ("loop", first, second, right)), "")
            for depth in range(21):
                self.assertEqual(shows(machine, ("back", depth)), "")
            self.assertIs(find_loop(machine, 50), None)
            self.assertIs(find_grams(machine, 2), None)


class Texts(unittest.TestCase):
    def test_the_example_of_the_document(self):
        evidence = ("closed", close(RIGHT, gram(0, 2), gram(0, 2)))
        self.assertEqual(evidence_text(evidence), EXAMPLE)
        self.assertEqual(evidence_text(evidence=evidence), EXAMPLE)
        self.assertEqual(read_evidence(EXAMPLE), evidence)
        self.assertEqual(read_evidence(line=EXAMPLE), evidence)

    def test_each_form(self):
        for evidence, line in [
            (("stop", 0), "stop 0"), (("stop", 2000), "stop 2000"), (("back", 20), "back 20"),
            (("loop", 3, 17, True), "loop 3 17 1"), (("loop", 17, 3, False), "loop 17 3 0"),
            (("shape", 6, (False, 1, ((), (1,)), ((1, 1),), 2)), "shape 6 0 1 2 0 1 1 1 2 1 1 2"),
            (("shape", 0, (True, 3, ((2,), (), (3, 0)), ((1,), (0, 2)), 20)), "shape 0 1 3 3 1 2 0 2 3 0 2 1 1 2 0 2 20"),
            (("closed", ((), (), (), (), ())), "closed 0 0 0 0 0"),
            (("closed", (((),), ((1000000,), ()), ((3, 4),), (), ((9, 8, 7, 6), (0, 0, 0, 0)))),
             "closed 1 0 2 1 1000000 0 1 3 4 0 2 9 8 7 6 0 0 0 0"),
        ]:
            self.assertEqual(evidence_text(evidence), line)
            found = read_evidence(line)
            self.assertEqual(repr(found), repr(evidence))

    def test_there_and_back(self):
        numbers = Numbers(11)
        for evidence in [some_evidence(numbers) for _ in range(400)] + [one for _, one in samples()]:
            line = evidence_text(evidence)
            self.assertEqual(line, plain_text(evidence))
            found = read_evidence(line)
            self.assertEqual(repr(found), repr(evidence))
            self.assertEqual(repr(plain_read(line)), repr(evidence))

    def check(self, line):
        """Check that the line is read as it should be, and return whether it is the text of evidence."""
        expected = plain_read(line)
        if expected is None:
            with self.assertRaises(BadText):
                read_evidence(line)
            return False
        self.assertEqual(repr(read_evidence(line)), repr(expected))
        self.assertEqual(evidence_text(expected), line)
        return True

    def test_a_sign_left_out_put_in_or_replaced(self):
        numbers = Numbers(12)
        lines = [EXAMPLE, "stop 0", "stop 10", "back 7", "loop 3 17 1", "shape 6 0 1 2 0 1 1 1 2 1 1 2"]
        lines += [evidence_text(some_evidence(numbers)) for _ in range(20)]
        answers = [0, 0]
        for line in lines:
            for at in range(len(line) + 1):
                changed = [line[:at] + line[at + 1:]]
                for sign in "019 -+stopx._\n\t":
                    changed += [line[:at] + sign + line[at:], line[:at] + sign + line[at + 1:]]
                for other in changed:
                    answers[self.check(other)] += 1
        self.assertGreater(min(answers), 300)

    def test_lines_that_are_no_texts(self):
        for line in [
            "", " ", "stop", "stop ", "stop  1", " stop 1", "stop 1 ", "stop 01", "stop +1", "stop -1", "stop 1 1", "stop 2001",
            "stop 1.0", "stop 1_0", "stop 0x1", "stop one", "Stop 1", "STOP 1", "stop\t1", "stop 1\n", "\nstop 1", "stop\n1",
            "1", "0 stop", "halt 1", "back", "back -0", "back 00", "loop 1 2", "loop 1 2 2", "loop 1 2 3 1", "loop 1 2 True",
            "loop 1 2 -1", "loop 1 2 01", "loop", "closed", "closed 0 0 0 0", "closed 0 0 0 0 0 0", "shape", "shape 1",
            "stop \u0661", "stop \u00b2", "stop 1\u00a0", "stop " + "1" * 30, "stop " + "9" * 5000, "stop " + "0" * 5000,
            "closed 5 0 0", "closed 999999999999999999 0 0 0 0", "closed " + "9" * 18 + " " + "9" * 18, "closed 1 999 0 0 0 0 0",
            "closed 0 0 1 0 0 0", "closed 0 0 0 0 1 0 0 0", "closed 1 1 1000001 0 0 0 0", "stop 1 stop 1", "stop 1\r",
            "shape 6 2 1 2 0 1 1 1 2 1 1 2", "shape 6 0 4 2 0 1 1 1 2 1 1 2", "shape 6 0 1 2 0 1 4 1 2 1 1 2",
            "shape 6 0 1 2 0 1 1 1 2 1 1 0", "shape 6 0 1 2 0 1 1 1 2 1 1 21", "shape 6 0 1 2 0 1 1 1 0 2",
            "shape 6 0 1 3 0 1 1 0 1 2 1 1 2", "shape 6 0 1 1 0 0 2", "shape 2001 0 1 2 0 1 1 1 2 1 1 2", "shape 6 0 1 2 0 1 1 1 2 1 1",
            "shape 6 0 1 2 25" + " 1" * 25 + " 0 1 1 1 2",
        ]:
            self.assertIs(self.check(line), False, line)
        self.assertIs(self.check("shape 6 0 1 2 24" + " 1" * 24 + " 0 1 1 1 2"), True)

    def test_words_left_out_and_put_in(self):
        numbers = Numbers(13)
        answers = [0, 0]
        for _ in range(60):
            words = evidence_text(some_evidence(numbers)).split(" ")
            for at in range(len(words)):
                for changed in (words[:at] + words[at + 1:], words[:at] + ["0"] + words[at:], words[:at] + ["1"] + words[at:]):
                    answers[self.check(" ".join(changed))] += 1
                number = words[at]
                if number.isdigit():
                    for other in (int(number) + 1, int(number) - 1, "0" + number, "-" + number, "+" + number, number + "0"):
                        answers[self.check(" ".join(words[:at] + [str(other)] + words[at + 1:]))] += 1
        self.assertGreater(min(answers), 300)

    def test_long_closed_sets(self):
        value = (((0, 1),) * 64, ((1, 0),) * 64, ((0, 0),) * 128, (), ((1, 2, 3, 4),) * 3000)
        line = evidence_text(("closed", value))
        self.assertEqual(line, plain_text(("closed", value)))
        self.assertEqual(read_evidence(line), ("closed", value))
        with self.assertRaises(BadText):
            read_evidence(line + " 0")
        with self.assertRaises(BadText):
            read_evidence(line[:-2])


class Mirrored(unittest.TestCase):
    def test_what_it_shows(self):
        for machine, evidence in samples():
            shown = shows(machine, evidence)
            self.assertIn(shown, ("stops", "runs"))
            turned = mirrored_evidence(evidence)
            self.assertEqual(turned[0], evidence[0])
            self.assertIs(is_evidence(turned), True)
            self.assertEqual(shows(mirrored(machine), turned), shown)
            self.assertEqual(shows(machine, mirrored_evidence(evidence=turned)), shown)
            self.assertEqual(mirrored_evidence(turned), evidence)

    def test_evidence_that_shows_nothing(self):
        for machine, evidence in samples():
            for other in (SWEEP, TWO, RIGHT, mirrored(machine)):
                self.assertEqual(shows(mirrored(other), mirrored_evidence(evidence)), shows(other, evidence))
        numbers = Numbers(14)
        for machine in some_machines(15, 3):
            for _ in range(5):
                evidence = some_evidence(numbers)
                self.assertEqual(shows(mirrored(machine), mirrored_evidence(evidence)), shows(machine, evidence))

    def test_each_form(self):
        for evidence, expected in [
            (("stop", 7), ("stop", 7)), (("back", 7), ("back", 7)), (("loop", 3, 7, True), ("loop", 3, 7, False)),
            (("loop", 3, 7, False), ("loop", 3, 7, True)),
            (("shape", 3, SHAPE), ("shape", 3, with_part(SHAPE, 0, True))),
            (("shape", 3, with_part(SHAPE, 0, True)), ("shape", 3, SHAPE)),
        ]:
            self.assertEqual(repr(mirrored_evidence(evidence)), repr(expected))

    def test_the_tuples_of_a_closed_set_are_in_ascending_order(self):
        left, right = ((0, 1), (1, 0)), ((0, 1), (2, 2), (0, 1))
        value = (left, right, ((0, 0), (1, 1)), ((0, 0), (2, 1)), ((0, 0, 0, 2), (0, 1, 1, 1), (1, 0, 0, 0)))
        expected = (right, left, ((0, 0), (2, 1)), ((0, 0), (1, 1)), ((0, 0, 0, 1), (1, 1, 1, 0), (2, 0, 0, 0)))
        self.assertEqual(mirrored_evidence(("closed", value)), ("closed", expected))
        self.assertEqual(mirrored_evidence(("closed", expected)), ("closed", value))
        numbers = Numbers(16)
        for _ in range(300):
            evidence = some_evidence(numbers)
            turned = mirrored_evidence(evidence)
            self.assertIs(is_evidence(turned), True)
            if evidence[0] == "closed":
                self.assertEqual(turned[1][:2], (evidence[1][1], evidence[1][0]))
                for one, other in ((2, 3), (3, 2)):
                    self.assertEqual(list(turned[1][one]), sorted(evidence[1][other]))
                self.assertEqual(list(turned[1][4]), sorted((r, s, x, l) for l, s, x, r in evidence[1][4]))
            else:
                self.assertEqual(mirrored_evidence(turned), evidence)


class Calls(unittest.TestCase):
    def test_no_answer_depends_on_earlier_calls(self):
        def answers():
            return [(shows(machine, evidence), evidence_text(evidence)) for machine, evidence in samples()]

        first = answers()
        for line in ("stop", "closed 5 0", ""):
            with self.assertRaises(BadText):
                read_evidence(line)
        self.assertEqual(answers(), first)

    def test_renamed_machines(self):
        # Evidence without states and symbols shows the same for the renamed machine.
        machine = parse("1RB1RB1LA_1LA1RB2RZ")
        self.assertEqual(shows(machine, ("stop", 3)), shows(renamed(machine, [0, 1], [0, 2, 1]), ("stop", 3)))
        self.assertTrue(all(plain_is_right(machine, value) for machine, value in right_samples(17, 2)))


if __name__ == "__main__":
    unittest.main()
