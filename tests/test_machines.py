import re
import unittest

from tacet.errors import BadNames, BadText
from tacet.machines import MOST_STATES, MOST_SYMBOLS, STOP, is_machine, mirrored, parse, renamed, text
from tests.samples import (
    SIZES, Numbers, all_machines, plain_run, renamed_configuration, some_configuration, some_machine,
    some_machines, some_naming, with_rule,
)

RULE = (1, 1, 0)
OTHERS = [None, 0, 1, -1, 5, True, False, "", "A", "1RZ", "1RZ1RZ", [], (), [0], (0,), ((),), [()], ((((),),),)]


class IsMachine(unittest.TestCase):
    def refuse(self, value):
        self.assertIs(is_machine(value), False, value)

    def test_machines_of_all_sizes(self):
        for machine in some_machines(1, 20):
            self.assertIs(is_machine(machine), True, machine)

    def test_the_least_and_greatest_parts(self):
        for states, symbols in SIZES:
            for rule in ((0, -1, -1), (symbols - 1, 1, states - 1), (0, 1, 0), (symbols - 1, -1, -1)):
                self.assertIs(is_machine(((rule,) * symbols,) * states), True)

    def refuse_rules(self, wrong_rules):
        """Each wrong rule makes a machine of each size wrong, wherever it stands."""
        numbers = Numbers(2)
        for states, symbols in SIZES:
            machine = some_machine(numbers, states, symbols)
            for state in range(states):
                for symbol in range(symbols):
                    for rule in wrong_rules(machine[state][symbol], states, symbols):
                        self.refuse(with_rule(machine, state, symbol, rule))

    def test_a_wrong_symbol(self):
        self.refuse_rules(lambda rule, states, symbols: [
            (wrong,) + rule[1:] for wrong in [-1, symbols, symbols + 1, 99, True, False, None, "0", "1", (0,), [0], ()]
        ])

    def test_a_wrong_move(self):
        self.refuse_rules(lambda rule, states, symbols: [
            (rule[0], wrong, rule[2]) for wrong in [0, 2, -2, 99, True, False, None, "L", "R", "1", (1,), [1], ()]
        ])

    def test_a_wrong_state(self):
        self.refuse_rules(lambda rule, states, symbols: [
            rule[:2] + (wrong,) for wrong in [-2, states, states + 1, 99, True, False, None, "A", "Z", (0,), [0], ()]
        ])

    def test_a_wrong_rule(self):
        self.refuse_rules(lambda rule, states, symbols: OTHERS + [
            list(rule), rule[:2], rule[1:], rule + (0,), rule + rule, (rule,), [rule], "0RA",
        ])

    def test_a_wrong_row(self):
        numbers = Numbers(3)
        for states, symbols in SIZES:
            machine = some_machine(numbers, states, symbols)
            for state in range(states):
                row = machine[state]
                for wrong in OTHERS + [list(row), (row,), row[:1], row * 4, row[0]]:
                    self.refuse(machine[:state] + (wrong,) + machine[state + 1:])

    def test_rows_of_different_lengths(self):
        numbers = Numbers(4)
        for states, symbols in SIZES:
            if states == 1:
                continue
            machine = some_machine(numbers, states, symbols)
            for state in range(states):
                for row in (machine[state][:-1], machine[state] + (RULE,)):
                    self.refuse(machine[:state] + (row,) + machine[state + 1:])

    def test_too_many_or_too_few_states_or_symbols(self):
        for many in (2, 3, 4):
            self.refuse(((RULE,) * many,) * 5)
            self.refuse(((RULE,) * many,) * 0)
        for many in (1, 2, 3, 4):
            for symbols in (0, 1, 5):
                self.refuse(((RULE,) * symbols,) * many)

    def test_a_list_in_the_place_of_a_tuple(self):
        numbers = Numbers(5)
        for states, symbols in SIZES:
            machine = some_machine(numbers, states, symbols)
            self.refuse(list(machine))
            self.refuse([list(row) for row in machine])
            self.refuse(tuple(list(row) for row in machine))

    def test_values_of_other_kinds(self):
        for value in OTHERS + [RULE, (RULE, RULE), "1RA1RZ", "0RB1LA_1LB1RZ", 10 ** 30, (0, 0, 0, ())]:
            self.refuse(value)
        self.refuse((((RULE, RULE),),))


class Text(unittest.TestCase):
    def test_the_example(self):
        machine = (((0, 1, 1), (1, -1, 0)), ((1, -1, 1), (1, 1, STOP)))
        self.assertEqual(text(machine), "0RB1LA_1LB1RZ")
        self.assertEqual(parse("0RB1LA_1LB1RZ"), machine)

    def test_each_sign(self):
        machine = (
            ((0, -1, 0), (1, 1, 1), (2, -1, 2), (3, 1, 3)),
            ((3, 1, -1), (2, -1, 3), (1, 1, 2), (0, -1, 1)),
            ((0, 1, 0), (0, -1, -1), (3, -1, 2), (1, 1, 3)),
            ((2, 1, 1), (2, 1, 0), (3, 1, 0), (1, -1, -1)),
        )
        line = "0LA1RB2LC3RD_3RZ2LD1RC0LB_0RA0LZ3LC1RD_2RB2RA3RA1LZ"
        self.assertEqual(text(machine), line)
        self.assertEqual(parse(line), machine)

    def test_parse_of_text_is_the_machine(self):
        for machine in some_machines(6, 20) + all_machines(1, 2):
            back = parse(text(machine))
            self.assertEqual(back, machine)
            self.assertIs(is_machine(back), True)

    def test_the_keywords(self):
        self.assertEqual(text(machine=parse(line="1RA1RZ")), "1RA1RZ")


def is_text(line):
    """Whether the line is the text of a machine, found in another way."""
    rows = [re.findall("...", row) for row in line.split("_")]
    rules = [rule for row in rows for rule in row]
    if "_".join("".join(row) for row in rows) != line or len({len(row) for row in rows}) != 1:
        return False
    if len(rows) > 4 or not 2 <= len(rows[0]) <= 4:
        return False
    kinds = ("0123"[:len(rows[0])], "LR", "ABCD"[:len(rows)] + "Z")
    return all(sign in kind for rule in rules for sign, kind in zip(rule, kinds))


class BadTexts(unittest.TestCase):
    def refuse(self, line):
        with self.assertRaises(BadText, msg=line):
            parse(line)

    def check(self, line):
        if is_text(line):
            self.assertEqual(text(parse(line)), line)
        else:
            self.refuse(line)

    def lines(self):
        return [text(machine) for machine in some_machines(7, 2)] + ["0RB1LA_1LB1RZ"]

    def test_a_sign_left_out(self):
        for line in self.lines():
            for at in range(len(line)):
                self.check(line[:at] + line[at + 1:])

    def test_a_sign_put_in(self):
        for line in self.lines():
            for at in range(len(line) + 1):
                for sign in "0123LRABCDZ_ \n":
                    self.check(line[:at] + sign + line[at:])

    def test_a_sign_doubled(self):
        for line in self.lines():
            for at in range(len(line)):
                self.refuse(line[:at] + line[at] + line[at:])

    def test_two_signs_exchanged(self):
        for line in self.lines():
            for at in range(len(line) - 1):
                self.refuse(line[:at] + line[at + 1] + line[at] + line[at + 2:])

    def test_a_sign_replaced(self):
        for line in self.lines():
            for at in range(len(line)):
                for sign in "012345-+LRABCDEFZY_lrabz .\n\t":
                    self.check(line[:at] + sign + line[at + 1:])

    def test_lower_case(self):
        for line in self.lines():
            self.refuse(line.lower())
            for at in range(len(line)):
                if line[at].isalpha():
                    self.refuse(line[:at] + line[at].lower() + line[at + 1:])

    def test_states_and_symbols_that_the_machine_does_not_have(self):
        for states, symbols in SIZES:
            row = "1RZ" * symbols
            rows = "_".join([row] * (states - 1) + ["1RZ" * (symbols - 1)])
            self.check(rows + "1RZ")
            for state in "ABCDEFYZ":
                self.check(rows + "1L" + state)
            for symbol in "0123456789":
                self.check(rows + symbol + "LZ")
        self.refuse("1RB1RZ")
        self.refuse("2RA1RZ")
        self.refuse("1RC1RZ_1RA1RB")
        self.refuse("1RB1RZ_2RA1RB")
        self.refuse("1RD1RZ_1RA1RB_1RA1RA")
        self.refuse("3RB1RZ2LA_2RA1RB0RZ")
        self.refuse("4RA1RZ2LA3RA")
        self.refuse("1RE1RZ_1RA1RA_1RA1RA_1RA1RA")

    def test_too_many_or_too_few_states_or_symbols(self):
        for states in range(1, 7):
            for symbols in range(0, 7):
                line = "_".join(["1RA" * symbols] * states)
                if states <= MOST_STATES and 2 <= symbols <= MOST_SYMBOLS:
                    self.assertEqual(parse(line), (((1, 1, 0),) * symbols,) * states)
                else:
                    self.refuse(line)

    def test_rows_of_different_lengths(self):
        self.refuse("1RA1RB_1RA1RB1RA")
        self.refuse("1RA1RB1RA_1RA1RB")
        self.refuse("1RA1RB_1RA")
        self.refuse("1RA_1RA1RB")

    def test_other_strings(self):
        for line in ["", "_", "__", " ", "\n", "A", "1", "1RA", "1RA1RZ\n", " 1RA1RZ", "1RA 1RZ", "1RA,1RZ"]:
            self.refuse(line)
        for line in ["_1RA1RZ", "1RA1RZ_", "1RA1RZ__1RA1RZ", "1RA_1RZ", "1RA1RZ-1RA1RZ", "1RA1R-", "-1RA1RZ"]:
            self.refuse(line)
        for line in ["1RA1RH", "1RA1R0", "1SA1RZ", "101RZ", "RA1RZ1", "1AR1ZR", "(1, 1, 0)", "None", "1RA1RZ" * 9]:
            self.refuse(line)

    def test_digits_and_letters_of_other_scripts(self):
        for one in ("\u0661", "\uff11", "\u00b9", "\u0967"):
            self.refuse(one + "RA1RZ")
        self.refuse("1R\u03911RZ")
        self.refuse("1R\u04101RZ")

    def test_any_number_of_signs(self):
        numbers = Numbers(8)
        for _ in range(3000):
            self.check("".join(numbers.pick("01LRAZ_") for _ in range(numbers.below(14))))


class Mirrored(unittest.TestCase):
    def test_the_moves_are_opposite(self):
        self.assertEqual(mirrored(parse("0RB1LA_1LB1RZ")), parse("0LB1RA_1RB1LZ"))
        self.assertEqual(mirrored(parse("2LA0RZ1RA")), parse("2RA0LZ1LA"))

    def test_nothing_else_changes(self):
        for machine in some_machines(9, 10):
            result = mirrored(machine=machine)
            self.assertIs(is_machine(result), True)
            self.assertEqual(mirrored(result), machine)
            for row, other in zip(machine, result):
                for rule, turned in zip(row, other):
                    self.assertEqual(turned, (rule[0], -rule[1], rule[2]))


class Renamed(unittest.TestCase):
    def test_an_example(self):
        machine = parse("2RB1LC0RZ_1RC2LA1LZ_0RC1RA2RB")
        self.assertEqual(text(renamed(machine, [0, 2, 1], [0, 2, 1])), "1RC0RZ2LB_0RB1RC2RA_2RB2LZ1LA")
        self.assertEqual(text(renamed(machine, [0, 1, 2], [0, 2, 1])), "1RB0RZ2LC_2RC2LZ1LA_0RC1RB2RA")
        self.assertEqual(text(renamed(machine, [0, 2, 1], [0, 1, 2])), "2RC1LB0RZ_0RB1RA2RC_1RB2LA1LZ")

    def test_a_turn_of_three(self):
        # The state 1 becomes 2, 2 becomes 3 and 3 becomes 1, and not the other way round.
        machine = parse("1RB1RZ_1RC1RA_1RD0RB_1RA0LC")
        self.assertEqual(text(renamed(machine, [0, 2, 3, 1], [0, 1])), "1RC1RZ_1RA0LD_1RD1RA_1RB0RC")
        machine = parse("1RA2LA3RZ0RA")
        self.assertEqual(text(renamed(machine, [0], [0, 2, 3, 1])), "2RA0RA3LA1RZ")

    def test_the_same_names(self):
        for machine in some_machines(10, 5):
            names = list(range(len(machine))), list(range(len(machine[0])))
            self.assertEqual(renamed(machine, *names), machine)

    def test_each_rule_has_its_new_names(self):
        numbers = Numbers(11)
        for machine in some_machines(12, 20):
            states, symbols = some_naming(numbers, machine)
            result = renamed(machine=machine, states=states, symbols=symbols)
            self.assertIs(is_machine(result), True)
            for state, row in enumerate(machine):
                for symbol, (write, move, new) in enumerate(row):
                    rule = (symbols[write], move, -1 if new == -1 else states[new])
                    self.assertEqual(result[states[state]][symbols[symbol]], rule)

    def test_it_does_with_the_new_names_what_the_machine_does_with_the_old_ones(self):
        numbers = Numbers(13)
        for machine in some_machines(14, 5):
            states, symbols = some_naming(numbers, machine)
            configuration = some_configuration(numbers, machine)
            last, steps = plain_run(machine, configuration, 30)
            start = renamed_configuration(configuration, states, symbols)
            expected = (renamed_configuration(last, states, symbols), steps)
            self.assertEqual(plain_run(renamed(machine, states, symbols), start, 30), expected)

    def test_the_lists_stay_as_they_are(self):
        machine = some_machine(Numbers(15), 4, 4)
        states, symbols = [0, 3, 1, 2], [0, 2, 3, 1]
        renamed(machine, states, symbols)
        self.assertEqual((states, symbols), ([0, 3, 1, 2], [0, 2, 3, 1]))
        wrong = [3, 0, 1, 2]
        with self.assertRaises(BadNames):
            renamed(machine, wrong, symbols)
        self.assertEqual(wrong, [3, 0, 1, 2])

    def test_wrong_lists(self):
        numbers = Numbers(16)
        for states, symbols in SIZES:
            machine = some_machine(numbers, states, symbols)
            for names in wrong_names(states):
                self.refuse(machine, names, list(range(symbols)))
            for names in wrong_names(symbols):
                self.refuse(machine, list(range(states)), names)
            self.refuse(machine, [], [])
            # Tuples are not lists.
            self.refuse(machine, tuple(range(states)), list(range(symbols)))
            self.refuse(machine, list(range(states)), tuple(range(symbols)))

    def refuse(self, machine, states, symbols):
        before = repr((states, symbols))
        with self.assertRaises(BadNames, msg=before):
            renamed(machine, states, symbols)
        self.assertEqual(repr((states, symbols)), before)


def wrong_names(many):
    """Lists that are no permutation of the numbers below `many` with 0 as the first one."""
    good = list(range(many))
    wrong = [good + [many], good + [0], good + [many - 1], good + [-1], good[:-1], [], good[1:]]
    wrong += [good[:-1] + [many], good[:-1] + [-1], good[:-1] + [99], [False] + good[1:], [0] * (many + 1)]
    if many > 1:
        wrong += [good[::-1], good[1:] + [0], [1, 0] + good[2:], [0] * many, [0, True] + good[2:]]
        wrong += [good[:-1] + [good[-2]], [-many] + good[1:], good[:-1] + [0], [good[-1]] + good[1:]]
    if many > 2:
        wrong += [[0, 2, True] + good[3:], [0, 2, 2] + good[3:], [0, 1, 1] + good[3:], [1, 2, 0] + good[3:]]
        wrong += [[0, 1 - many] + good[2:]]
    return wrong


if __name__ == "__main__":
    unittest.main()
