import unittest

from tacet.growing import find_shape, growths
from tacet.machines import STOP, mirrored, parse, renamed
from tacet.normal import tree
from tacet.shapes import has_shape, is_shape
from tacet.tapes import BLANK, run
from tests.proofs import plain_has_shape
from tests.samples import Numbers, some_machines, some_naming
from tests.test_shapes import SHAPES

SWEEP = parse("1RB1LA_1LA1RB")
TWO = parse("1RB1LB_1LA1RZ")


class FindShape(unittest.TestCase):
    def check(self, machine, count):
        """Check what is found, and return it."""
        found = find_shape(machine, count)
        if found is not None:
            start, shape = found
            self.assertIn(start, range(count + 1))
            self.assertIs(is_shape(machine, shape), True)
            self.assertIs(has_shape(machine, start, shape), True)
        return found

    def test_machines_that_sweep_to_and_fro(self):
        for line, _, _ in SHAPES:
            machine = parse(line)
            for one in (machine, mirrored(machine)):
                found = self.check(one, 1000)
                self.assertIsNot(found, None)
                self.assertIs(plain_has_shape(one, *found), True)
        self.assertEqual(find_shape(machine=SWEEP, count=1000), self.check(SWEEP, 1000))

    def test_machines_that_grow_at_both_ends_or_by_turns(self):
        for line in [
            "1RB1RZ_0RC1RC_0RD0RC_1LD1RB", "1RB1RZ_0RC0RB_1LC0RD_1RA0LD", "1RB2LA1LA2LA_1LA2RB3RB1RZ", "1RB1LA1RZ2LA_2LA3LB3RB0RA",
            "1RB0RB1LA_1LA2RB1RZ", "1RB2RB1LA_0LA2RA1RZ", "1RB1LA3LA1RZ_1LA2RB1RA0LB", "1RB1LA1LB2RA_2LA3LB0RA1RZ",
        ]:
            self.assertIsNot(self.check(parse(line), 1000), None)

    def test_two_repeats(self):
        many = 0
        for line, _, shape in SHAPES:
            if len(shape[3]) == 2:
                many += len(self.check(parse(line), 1000)[1][3]) == 2
        self.assertGreater(many, 3)

    def test_a_machine_that_leaves_marks_behind(self):
        self.assertEqual(find_shape(parse("1RA1RZ"), 1000), (1, (False, 0, ((), ()), ((1,),), 1)))
        self.assertEqual(find_shape(parse("1LA1RZ"), 1000), (1, (True, 0, ((), ()), ((1,),), 1)))

    def test_none(self):
        for count in (1, 2, 20, 1000):
            self.assertIs(find_shape(TWO, count), None)
            # The tape stays blank, or the head stays where it is.
            self.assertIs(find_shape(parse("0RA1RZ"), count), None)
            self.assertIs(find_shape(parse("0RB1RZ_0LA1RZ"), count), None)
            # A counter needs twice as many steps for each cell more.
            self.assertIs(find_shape(parse("0RB0LA_1LA1RB_1RZ1RZ"), count), None)

    def test_counts(self):
        for line, _, _ in SHAPES[:4]:
            machine = parse(line)
            least = [count for count in range(1, 120) if self.check(machine, count) is not None]
            self.assertGreater(len(least), 30)
            self.assertGreater(least[0], 1)
        for count in (1, 2, 3):
            self.assertIs(find_shape(SWEEP, count), None)

    def test_no_machine_that_stops(self):
        for machine in tree(3, 2, 50, 10000)[::3]:
            found = self.check(machine, 40)
            if run(machine, BLANK, 50)[0][0] == STOP:
                self.assertIs(found, None)

    def test_what_is_found_is_one(self):
        many = 0
        for machine in some_machines(1, 6):
            for count in (10, 200):
                found = self.check(machine, count)
                if found is not None:
                    many += 1
                    self.assertIs(plain_has_shape(machine, *found), True)
        self.assertGreater(many, 20)

    def test_mirrored_and_renamed(self):
        numbers = Numbers(2)
        for machine in [parse(line) for line, _, _ in SHAPES] + some_machines(3, 2):
            found = find_shape(machine, 300) is None
            self.assertIs(find_shape(mirrored(machine), 300) is None, found)
            self.assertIs(find_shape(renamed(machine, *some_naming(numbers, machine)), 300) is None, found)


class Growths(unittest.TestCase):
    def test_one_repeat(self):
        self.assertEqual(growths((1, 2), (1, 2, 2), (1, 2, 2, 2)), [(((1,), ()), ((2,),))])
        self.assertEqual(growths((1, 3), (1, 2, 3), (1, 2, 2, 3)), [(((1,), (3,)), ((2,),))])
        self.assertEqual(growths((1, 3), (1, 2, 3), (1, 2, 4, 3)), [])

    def test_the_places_of_the_repeat(self):
        found = growths((1, 2, 3, 2, 3), (1, 2, 3, 2, 3, 2, 3), (1, 2, 3, 2, 3, 2, 3, 2, 3))
        self.assertEqual(found, [(((1,), ()), ((2, 3),)), (((1, 2), (3,)), ((3, 2),))])

    def test_two_repeats(self):
        self.assertEqual(
            growths((1, 0, 2), (1, 1, 0, 2, 2), (1, 1, 1, 0, 2, 2, 2)), [(((), (0,), ()), ((1,), (2,)))]
        )
        self.assertEqual(growths((1, 2), (1, 1, 2, 2), (1, 1, 1, 2, 2, 2)), [(((), (), ()), ((1,), (2,)))])

    def test_copies_that_are_there_already(self):
        for one, other, words in [
            (2, 2, ((), (0,), ())), (3, 1, ((1, 1), (0,), ())), (1, 4, ((), (0,), (2, 2, 2))), (0, 2, ((), (0,), (2, 2))),
            (2, 0, ((1, 1), (0,), ())),
        ]:
            tapes = [(1,) * (one + n) + (0,) + (2,) * (other + n) for n in range(3)]
            self.assertEqual(growths(*tapes), [(words, ((1,), (2,)))])
            tapes = [(3, 1) * (one + n) + (0,) + (2,) * (other + n) for n in range(3)]
            words = ((3, 1) * (len(words[0])), (0,), words[2])
            self.assertEqual(growths(*tapes), [(words, ((3, 1), (2,)))])

    def test_none(self):
        for tapes in [
            ((1,), (1,), (1,)), ((1, 1), (1,), ()), ((1,), (1, 1), (1, 1)), ((1,), (1, 1), (1, 1, 1, 1)), ((), (), ()),
            ((1,) * 25, (2,) * 25 + (1,), (2,) * 25 + (1, 1)),
        ]:
            self.assertEqual(growths(*tapes), [])

    def test_long_words(self):
        # The word that does not change has 24 or 25 symbols.
        for many, expected in ((24, 1), (25, 0)):
            word = (1, 2, 3, 3, 1) * 5
            found = growths(*[(2,) * n + word[:many] for n in (1, 2, 3)])
            self.assertEqual(len(found), expected)


class Calls(unittest.TestCase):
    def test_no_answer_depends_on_earlier_calls(self):
        def answers():
            return [find_shape(parse(line), 200) for line, _, _ in SHAPES]

        first = answers()
        find_shape(SWEEP, 1000)
        self.assertEqual(answers(), first)


if __name__ == "__main__":
    unittest.main()
