import itertools
import unittest
from unittest import mock

from tacet import closed
from tacet.automata import MOST_GRAM, find_grams, find_small, gram, plain_automata, product
from tacet.closed import MOST_ROWS, close, is_automaton, is_right
from tacet.errors import TooLarge
from tacet.machines import STOP, mirrored, parse
from tacet.normal import tree
from tacet.tapes import BLANK, run
from tests.proofs import all_automata, is_plain, plain_closed, plain_closure, read, some_automaton
from tests.samples import Numbers, some_machines

COUNTS = [(count, symbols) for symbols in (2, 3, 4) for count in (1, 2)] + [(3, 2)]
TWO = parse("1RB1LB_1LA1RZ")
# Machines that have closed sets with two small automata, but none with gram automata.
SMALL_ONLY = [parse(line) for line in ("0RB0LA_1LA1RC_1RB1RZ", "0RB0LA_1RC1RZ_1LA1RB", "1RB1RZ_1LC1RA_0RA0LC")]


def cycle(rows, symbols, shift=1):
    """An automaton that counts the cells that are not blank."""
    return tuple(tuple((row + shift * (symbol > 0)) % rows for symbol in range(symbols)) for row in range(rows))


class Gram(unittest.TestCase):
    def test_no_cell_and_one(self):
        self.assertEqual(gram(0, 2), ((0, 0),))
        self.assertEqual(gram(0, 3), ((0, 0, 0),))
        self.assertEqual(gram(0, 4), ((0, 0, 0, 0),))
        self.assertEqual(gram(1, 2), ((0, 1), (0, 1)))
        self.assertEqual(gram(1, 3), ((0, 1, 2),) * 3)
        self.assertEqual(gram(1, 4), ((0, 1, 2, 3),) * 4)

    def test_two_cells(self):
        self.assertEqual(gram(2, 2), ((0, 1), (2, 3), (0, 1), (2, 3)))
        self.assertEqual(gram(count=2, symbols=3), ((0, 1, 2), (3, 4, 5), (6, 7, 8)) * 3)
        self.assertEqual(gram(2, 4)[5], (4, 5, 6, 7))

    def test_the_row_is_the_last_cells(self):
        for count in range(MOST_GRAM + 1):
            for symbols in (2, 3, 4):
                automaton = gram(count, symbols)
                if automaton is None:
                    continue
                self.assertIs(is_automaton(automaton, symbols), True)
                numbers = Numbers(count + symbols)
                for _ in range(30):
                    cells = [numbers.below(symbols) for _ in range(numbers.below(9))]
                    last = ([0] * count + cells)[len(cells):]
                    self.assertEqual(read(automaton, cells), sum(x * symbols ** at for at, x in enumerate(last[::-1])))

    def test_none_beyond_64_rows(self):
        self.assertEqual((MOST_GRAM, MOST_ROWS), (5, 64))
        for symbols, rows in ((2, [1, 2, 4, 8, 16, 32]), (3, [1, 3, 9, 27]), (4, [1, 4, 16, 64])):
            for count in range(6):
                if count < len(rows):
                    self.assertEqual(len(gram(count, symbols)), rows[count])
                else:
                    self.assertIs(gram(count, symbols), None)


class PlainAutomata(unittest.TestCase):
    def test_all_of_them_in_order(self):
        for count, symbols in COUNTS:
            expected = [one for rows in range(1, count + 1) for one in all_automata(rows, symbols) if is_plain(one)]
            found = plain_automata(count, symbols)
            self.assertEqual(found, expected)
            self.assertEqual(found, sorted(found, key=lambda one: (len(one), one)))
            self.assertTrue(all(is_automaton(one, symbols) for one in found))
        self.assertEqual(plain_automata(count=1, symbols=3), [((0, 0, 0),)])

    def test_two_rows(self):
        self.assertEqual(plain_automata(1, 2), [((0, 0),)])
        two = [((0, 1), row) for row in ((0, 0), (0, 1), (1, 0), (1, 1))]
        self.assertEqual(plain_automata(2, 2), [((0, 0),)] + two)
        self.assertEqual([len(plain_automata(*count)) for count in COUNTS], [1, 5, 1, 25, 1, 113, 50])

    def test_three_rows(self):
        found = plain_automata(3, 2)
        for one in (((0, 1), (0, 2), (0, 0)), ((0, 1), (2, 2), (1, 0)), ((0, 1), (2, 0), (2, 2))):
            self.assertIn(one, found)
        # The number 2 occurs before 1, or not up to the row 1; or the row 1 is behind no other row.
        for one in (((0, 2), (1, 0), (0, 0)), ((0, 1), (0, 0), (2, 2)), ((0, 0), (1, 2), (0, 1)), ((0, 1), (1, 1), (0, 0))):
            self.assertNotIn(one, found)

    def test_each_reachable_automaton_is_one_with_other_numbers(self):
        for rows, symbols in ((2, 2), (2, 3), (3, 2)):
            found = plain_automata(rows, symbols)
            for one in all_automata(rows, symbols):
                reached = {read(one, cells) for long in range(rows + 1) for cells in
                           itertools.product(range(symbols), repeat=long)}
                if len(reached) < rows:
                    continue
                names = [
                    tuple(tuple(order[one[order.index(row)][x]] for x in range(symbols)) for row in range(rows))
                    for order in ([0] + list(rest) for rest in itertools.permutations(range(1, rows)))
                ]
                self.assertEqual(sum(name in found for name in names), 1)


class Product(unittest.TestCase):
    def test_small_ones(self):
        one = ((0, 0),)
        self.assertEqual(product(one, one), one)
        for automaton in plain_automata(3, 2):
            self.assertEqual(product(automaton, one), automaton)
            self.assertEqual(product(one, automaton), automaton)
            self.assertEqual(product(automaton, automaton), automaton)
        self.assertEqual(product(first=gram(1, 2), second=gram(2, 2)), ((0, 1), (2, 3), (0, 1), (2, 3)))
        self.assertEqual(product(gram(1, 3), gram(1, 3)), gram(1, 3))

    def test_the_order_of_the_rows(self):
        # Found in this order: (0, 0), (1, 1), (2, 0), (0, 1), (1, 0), (2, 1).
        self.assertEqual(product(cycle(3, 2), cycle(2, 2)), ((0, 1), (1, 2), (2, 3), (3, 4), (4, 5), (5, 0)))
        first, second = ((0, 1, 2), (1, 1, 1), (2, 2, 0)), ((0, 1, 1), (1, 0, 0))
        # (0, 0), (1, 1), (2, 1), (1, 0), (0, 0) again, (2, 0), (0, 1).
        self.assertEqual(
            product(first, second), ((0, 1, 2), (1, 3, 3), (2, 4, 0), (3, 1, 1), (4, 2, 5), (5, 3, 4))
        )

    def test_what_it_reads_is_the_pair_of_what_both_read(self):
        numbers = Numbers(1)
        many = 0
        for _ in range(60):
            symbols = 2 + numbers.below(3)
            first = some_automaton(numbers, 1 + numbers.below(5), symbols)
            second = some_automaton(numbers, 1 + numbers.below(7), symbols)
            both = product(first, second)
            self.assertIs(is_automaton(both, symbols), True)
            pairs, order = {}, [0]
            for _ in range(200):
                cells = [numbers.below(symbols) for _ in range(numbers.below(25))]
                pair = (read(first, cells), read(second, cells))
                self.assertEqual(pairs.setdefault(read(both, cells), pair), pair)
            many += len(both) > 5
            self.assertEqual(len(set(pairs.values())), len(pairs))
            # The rows are found in the order of their numbers.
            for row in both:
                for number in row:
                    if number not in order:
                        order.append(number)
            self.assertEqual(order, list(range(len(both))))
        self.assertGreater(many, 20)

    def test_too_large(self):
        self.assertEqual(len(product(cycle(8, 2), ((0, 1),) * 2)), 16)
        for first, second, rows in ((7, 9, 63), (5, 12, 60), (64, 64, 64), (64, 1, 64), (64, 32, 64), (1, 64, 64)):
            for symbols in (2, 3, 4):
                self.assertEqual(len(product(cycle(first, symbols), cycle(second, symbols))), rows)
        for first, second in ((5, 13), (11, 6), (64, 63), (13, 5), (64, 3), (2, 33), (22, 3)):
            for symbols in (2, 3, 4):
                with self.assertRaises(TooLarge):
                    product(cycle(first, symbols), cycle(second, symbols))
        # Each row of the two together: 8 times 8 are 64.
        self.assertEqual(len(product(gram(3, 2), cycle(8, 2))), 64)
        self.assertEqual(product(gram(3, 4), gram(2, 4)), gram(3, 4))
        with self.assertRaises(TooLarge):
            product(gram(3, 2), cycle(9, 2))

    def test_exactly_beyond_64_rows(self):
        numbers = Numbers(2)
        answers = [0, 0]
        for _ in range(160):
            first, second = some_automaton(numbers, 12, 2), some_automaton(numbers, 9, 2)
            pairs = [(0, 0)]
            for one, other in pairs:
                pairs += [pair for pair in sorted(set(zip(first[one], second[other]))) if pair not in pairs]
            answers[len(pairs) > 64] += 1
            if len(pairs) > 64:
                with self.assertRaises(TooLarge):
                    product(first, second)
            else:
                self.assertEqual(len(product(first, second)), len(pairs))
        self.assertGreater(min(answers), 10)


class FindGrams(unittest.TestCase):
    def check(self, machine, count):
        expected = None
        for number in range(count + 1):
            automaton = gram(number, len(machine[0]))
            if automaton is None or len(plain_closure(machine, automaton, automaton)[2]) > 3000:
                continue
            value = plain_closed(machine, automaton, automaton)
            if value is not None:
                expected = (value, number)
                break
        self.assertEqual(find_grams(machine, count), expected)
        return expected

    def test_the_first_in_the_words_of_the_document(self):
        found = []
        for machine in some_machines(3, 6):
            value = self.check(machine, 2)
            found.append(value if value is None else value[1])
        for machine in tree(2, 2, 50, 100):
            self.check(machine, 3)
        for number, many in ((None, 40), (0, 20), (1, 2)):
            self.assertGreater(found.count(number), many)

    def test_examples(self):
        self.assertEqual(find_grams(parse("1RA1RZ"), 5), (close(parse("1RA1RZ"), gram(0, 2), gram(0, 2)), 0))
        self.assertEqual(find_grams(machine=parse("1RA1RZ"), count=0)[1], 0)
        for line, number in [
            ("0RB0LA_1LA1RB_1RZ1RZ", 0), ("1RB1LA_1LA0LC_1RZ1RA", 1), ("0RB0LA_0LC1RC_1LA1RZ", 2), ("0RB0LB_0LC1RA_1LA1RZ", 3),
            ("1RB1LC_1LA0RA_0LB1RZ", 4), ("1RB1RZ_1LC1RA_1LA0LC", 5),
        ]:
            machine = parse(line)
            for count in range(6):
                value = find_grams(machine, count)
                if count < number:
                    self.assertIs(value, None)
                else:
                    self.assertEqual(value[1], number)
                    self.assertIs(is_right(machine, value[0]), True)
                    self.assertEqual(value[0][:2], (gram(number, 2), gram(number, 2)))

    def test_none(self):
        for machine in [TWO] + SMALL_ONLY:
            for count in range(6):
                self.assertIs(find_grams(machine, count), None)
        # With 3 or 4 symbols there are none of 4 or 5 cells.
        for line in ("1RB2LB1RZ_2LA2RB1LB", "1RB2LA1RA1RA_1LB1LA3RB1RZ"):
            self.assertIs(find_grams(parse(line), 5), None)

    def test_too_large_is_no_end(self):
        # With another bound: as if the closed set with the first automata were too large.
        for line in ("1RB1LA_1LA0LC_1RZ1RA", "1RB1LA_1LA1RB"):
            machine = parse(line)
            first = find_grams(machine, 5)
            sizes = [len(plain_closure(machine, gram(n, 2), gram(n, 2))[2]) for n in range(6)]
            for limit in range(1, max(sizes) + 1):
                with mock.patch.object(closed, "MOST_ELEMENTS", limit):
                    fitting = [n for n in range(first[1], 6) if sizes[n] <= limit]
                    value = find_grams(machine, 5)
                    self.assertEqual(value if value is None else value[1], fitting[0] if fitting else None)

    def test_no_machine_that_stops(self):
        for machine in tree(2, 3, 50, 5000)[::7]:
            if run(machine, BLANK, 50)[0][0] == STOP:
                self.assertIs(find_grams(machine, 3), None)
                self.assertIs(find_small(machine, 2), None)


class FindSmall(unittest.TestCase):
    def check(self, machine, count):
        expected = None
        automata = plain_automata(count, len(machine[0]))
        for left, right in itertools.product(automata, automata):
            expected = plain_closed(machine, left, right)
            if expected is not None:
                break
        self.assertEqual(find_small(machine, count), expected)
        return expected

    def test_the_first_in_the_words_of_the_document(self):
        found = []
        for machine in some_machines(4, 2):
            if len(machine[0]) < 4:
                found.append(self.check(machine, 2 if len(machine[0]) == 2 else 1) is not None)
        for machine in tree(3, 2, 50, 10000)[::150]:
            found.append(self.check(machine, 2) is not None)
        self.assertGreater(found.count(True), 10)
        self.assertGreater(found.count(False), 10)

    def test_counters(self):
        for machine in SMALL_ONLY:
            self.assertIs(find_small(machine, 1), None)
            value = self.check(machine, 3)
            self.assertIs(is_right(machine, value), True)
            self.assertIs(is_right(mirrored(machine), find_small(mirrored(machine), 3)), True)

    def test_the_left_one_comes_first(self):
        # A machine that leaves marks behind it: the left automaton is that of one row, and so is the right one.
        machine = parse("1RA1RZ")
        self.assertEqual(find_small(machine, 3), close(machine, gram(0, 2), gram(0, 2)))
        self.assertEqual(find_small(machine=machine, count=1), close(machine, gram(0, 2), gram(0, 2)))
        places = []
        for machine in tree(3, 2, 50, 10000)[::40]:
            value = find_small(machine, 2)
            if value is not None:
                automata = plain_automata(2, 2)
                places.append((automata.index(value[0]), automata.index(value[1])))
                for left, right in itertools.product(automata, automata):
                    if (automata.index(left), automata.index(right)) < places[-1]:
                        self.assertIs(plain_closed(machine, left, right), None)
        self.assertTrue(any(left > right for left, right in places))
        self.assertTrue(any(left < right for left, right in places))

    def test_none(self):
        for count in (1, 2, 3):
            self.assertIs(find_small(TWO, count), None)
        self.assertIs(find_small(parse("1RB2LB1RZ_2LA2RB1LB"), 2), None)
        self.assertIs(find_small(parse("1RB1RZ1RZ1RZ_1RZ1RZ1RZ1RZ"), 2), None)

    def test_too_large_is_no_end(self):
        machine = SMALL_ONLY[0]
        pairs = list(itertools.product(plain_automata(3, 2), repeat=2))
        sizes = [len(plain_closure(machine, *pair)[2]) for pair in pairs]
        values = [plain_closed(machine, *pair) for pair in pairs]
        for limit in (1, 5, 9, 12, 20, 54):
            fitting = [value for value, size in zip(values, sizes) if value is not None and size <= limit]
            with mock.patch.object(closed, "MOST_ELEMENTS", limit):
                self.assertEqual(find_small(machine, 3), fitting[0] if fitting else None)


class Calls(unittest.TestCase):
    def test_no_answer_depends_on_earlier_calls(self):
        first = plain_automata(2, 2)
        first.append("more")
        self.assertEqual(len(plain_automata(2, 2)), 5)
        self.assertIsNot(plain_automata(2, 3), plain_automata(2, 3))
        machine = SMALL_ONLY[0]
        value = find_small(machine, 3)
        self.assertIs(find_grams(machine, 5), None)
        self.assertEqual(find_small(machine, 3), value)
        self.assertEqual(gram(2, 2), gram(2, 2))


if __name__ == "__main__":
    unittest.main()
