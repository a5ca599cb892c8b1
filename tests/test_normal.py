import unittest

from tacet.errors import TooLarge
from tacet.machines import STOP, is_machine, mirrored, parse, renamed, text
from tacet.normal import children, normal_form, root, tree
from tacet.tapes import BLANK, run
from tests.samples import (
    PLAIN, SIZES, Numbers, all_machines, plain_children, plain_normal_form, plain_tree, some_machine, some_machines,
    some_naming,
)


def form(line, count):
    return text(normal_form(parse(line), count))


def below(line, count):
    return [text(child) for child in children(parse(line), count)]


def has_stop(machine):
    return any(rule[2] == STOP for row in machine for rule in row)


class NormalForm(unittest.TestCase):
    def test_no_steps(self):
        for machine in some_machines(1, 5):
            self.assertEqual(normal_form(machine, 0), root(len(machine), len(machine[0])))

    def test_rules_that_are_not_used(self):
        self.assertEqual(form("0RB1LA_1LB1RZ", 1), "0RB1RZ_1RZ1RZ")
        self.assertEqual(form("0RB1LA_1LB1RZ", 2), "0RB1RZ_1LB1RZ")
        self.assertEqual(form("0RB1LA_1LB0RA", 5000), "0RB1RZ_1LB1RZ")
        self.assertEqual(form("1RA0LZ", 5000), "1RA1RZ")
        self.assertEqual(form("0RA0LZ0RZ2LZ", 5), "0RA1RZ1RZ1RZ")

    def test_each_step_may_use_one_rule_more(self):
        forms = [form("1RB1LB_1LA1RZ", count) for count in range(8)]
        self.assertEqual(forms[:3], ["1RZ1RZ_1RZ1RZ", "1RB1RZ_1RZ1RZ", "1RB1RZ_1LA1RZ"])
        self.assertEqual(forms[3:], ["1RB1LB_1LA1RZ"] * 5)

    def test_the_stopping_rule_that_is_used(self):
        self.assertEqual(form("1RB1LB_1LA0LZ", 6), "1RB1LB_1LA1RZ")
        self.assertEqual(form("1RB1LB_1LA0LZ", 5), "1RB1LB_1LA1RZ")
        self.assertEqual(form("0LZ1RA", 3), "1RZ1RZ")
        self.assertEqual(form("0RZ1LA", 3), "1RZ1RZ")
        self.assertEqual(form("2RB1RA2LA_2LZ2LB1RB", 9), "1RB1RZ1RZ_1RZ1RZ1RZ")

    def test_a_first_step_to_the_left(self):
        self.assertEqual(form("1LB1RB_1RA1LZ", 50), "1RB1LB_1LA1RZ")
        self.assertEqual(form("1LB1RB_1RA1LZ", 1), "1RB1RZ_1RZ1RZ")
        self.assertEqual(form("1LA0RA", 5), "1RA1RZ")
        self.assertEqual(form("0LB1RZ_1RB1LZ", 9), "0RB1RZ_1LB1RZ")
        # Only the first step counts, not the first rule of another state.
        self.assertEqual(form("1RB1LB_1LA1LA", 50), "1RB1LB_1LA1LA")

    def test_the_order_of_the_states(self):
        self.assertEqual(form("1RC1RZ_1LA0RB_0RB1LA", 3), "1RB1RZ_0RC1RZ_1LA1RZ")
        self.assertEqual(form("1RC1RZ_1LA0RB_0RB1LA", 1), "1RB1RZ_1RZ1RZ_1RZ1RZ")
        self.assertEqual(form("1RD1RZ_1RA1RA_1RB1RA_0RC1RA", 4), "1RB1RZ_0RC1RZ_1RD1RZ_1RA1RZ")
        # The state after the last step has its name, too, though none of its rules is used.
        self.assertEqual(form("1RD1RZ_1RA1RA_1RB1RA_0RC1RA", 2), "1RB1RZ_0RC1RZ_1RZ1RZ_1RZ1RZ")

    def test_the_order_of_the_symbols(self):
        self.assertEqual(form("2RB1RZ1LA_1LA0RB2LA", 2), "1RB1RZ1RZ_2LA1RZ1RZ")
        self.assertEqual(form("2RB1RZ0LB_1LA0RB2LA", 3), "1RB0LB1RZ_2LA1RZ1RZ")
        self.assertEqual(form("3RB1RZ1LA0LB_0LA2RB2LA1RA", 4), "1RB0LB1RZ1RZ_0LA1RZ1RZ1RZ")
        self.assertEqual(form("3RB0RZ1LA2LB_1LA2RB2LA1RA", 4), "1RB3LB1RZ1RZ_2LA1RZ1RZ1RZ")
        # What is written by the step that stops has no name of its own.
        self.assertEqual(form("0RB1RA2RA_2LZ1RA2RA", 9), "0RB1RZ1RZ_1RZ1RZ1RZ")

    def test_the_written_1_of_the_plain_stopping_rules(self):
        self.assertEqual(form("2RB0RA1RA_0LA1RZ2RZ", 2), "1RB1RZ1RZ_0LA1RZ1RZ")
        self.assertEqual(form("3RA1RZ1RZ1RZ", 7), "1RA1RZ1RZ1RZ")
        self.assertEqual(form("2RB0RA1LB_0LA1RZ1RZ", 5000), form("2RB0RA1LB_0LA2LZ0RZ", 5000))

    def test_mirrored_and_in_a_new_order(self):
        self.assertEqual(form("2LC1RZ0RC_0RA1LA2LA_1RA2RB0LB", 3), "1RB0LB1RZ_2LA1RZ1RZ_1RZ1RZ1RZ")

    def test_all_counts(self):
        for machine in some_machines(2, 2):
            for count in list(range(13)) + [30, 47, 200]:
                self.assertEqual(normal_form(machine, count), plain_normal_form(machine, count), text(machine))

    def test_long_runs(self):
        for line in ["1RB1LB_1LA0LC_1RZ1LD_1RD0RA", "1LB2RA1LA1LA_1RB1RA3LB1LZ", "1LC1RA_1RZ0LC_1RA0LA", "0RA1RZ"]:
            machine = parse(line)
            for count in (106, 107, 108, 4999, 5000):
                self.assertEqual(normal_form(machine, count), plain_normal_form(machine, count))

    def test_a_rule_that_is_used_only_in_the_last_step(self):
        machine = parse("1RB1LA_1LA1RB")
        for count in range(1, 300):
            self.assertEqual(normal_form(machine, count), plain_normal_form(machine, count))

    def test_alike_machines_have_the_same_form(self):
        numbers = Numbers(3)
        for machine in some_machines(4, 5):
            count = numbers.below(40)
            states, symbols = some_naming(numbers, machine)
            result = normal_form(machine=machine, count=count)
            self.assertIs(is_machine(result), True)
            self.assertEqual(normal_form(mirrored(machine), count), result)
            self.assertEqual(normal_form(renamed(machine, states, symbols), count), result)
            self.assertEqual(normal_form(result, count), result)

    def test_the_form_stops_when_the_machine_stops(self):
        for machine in some_machines(5, 5):
            last, steps = run(machine, BLANK, 60)
            other, number = run(normal_form(machine, 60), BLANK, 60)
            self.assertEqual((other[0] == STOP, number), (last[0] == STOP, steps))


class Root(unittest.TestCase):
    def test_all_sizes(self):
        for states, symbols in SIZES:
            result = root(states, symbols)
            self.assertEqual(result, tuple(tuple((1, 1, -1) for _ in range(symbols)) for _ in range(states)))
            self.assertIs(is_machine(result), True)
        self.assertEqual(text(root(states=2, symbols=3)), "1RZ1RZ1RZ_1RZ1RZ1RZ")


class Children(unittest.TestCase):
    def test_of_the_root(self):
        self.assertEqual(below("1RZ1RZ", 1), ["0RA1RZ", "1RA1RZ"])
        self.assertEqual(below("1RZ1RZ_1RZ1RZ", 50), [
            "0RA1RZ_1RZ1RZ", "0RB1RZ_1RZ1RZ", "1RA1RZ_1RZ1RZ", "1RB1RZ_1RZ1RZ",
        ])
        for states, symbols in SIZES:
            rules = [child[0][0] for child in children(root(states, symbols), 1)]
            last = min(1, states - 1)
            self.assertEqual(rules, [(write, 1, state) for write in (0, 1) for state in range(last + 1)])

    def test_no_steps(self):
        for machine in some_machines(6, 5):
            self.assertEqual(children(machine, 0), [])

    def test_the_order(self):
        self.assertEqual(below("1RB1RZ_1RZ1RZ", 2), ["1RB1RZ_" + rule + "1RZ" for rule in (
            "0LA", "0LB", "0RA", "0RB", "1LA", "1LB", "1RA", "1RB",
        )])
        self.assertEqual(below("0RB1RZ1RZ_1RZ1RZ1RZ_1RZ1RZ1RZ", 2), [
            "0RB1RZ1RZ_" + rule + "1RZ1RZ_1RZ1RZ1RZ" for rule in (
                "0LA", "0LB", "0LC", "0RA", "0RB", "0RC", "1LA", "1LB", "1LC", "1RA", "1RB", "1RC",
            )
        ])

    def test_the_rule_that_stopped_is_replaced(self):
        # The head comes back to the mark in the state A.
        found = below("1RB1RZ_0LA1RZ", 3)
        self.assertEqual(found[0], "1RB0LA_0LA1RZ")
        self.assertEqual(found[-1], "1RB1RB_0LA1RZ")
        self.assertEqual(len(found), 8)
        # It is the rule in which it stopped, not the first one, and the other rules stay as they are.
        found = below("1RB0LZ2LZ_2RB0RZ2RC_0LB2LZ1RZ", 9)
        self.assertEqual(found, [])
        found = below("1RB0LZ2LZ_2LB0RZ2RC_0LB2LZ1RZ", 9)
        self.assertEqual([found[0], found[-1]], ["1RB0LZ2LZ_2LB0LA2RC_0LB2LZ1RZ", "1RB0LZ2LZ_2LB2RC2RC_0LB2LZ1RZ"])
        self.assertEqual(len(found), 18)

    def test_the_steps_until_it_stops(self):
        for line, steps in [("1RB1LB_1LA1RZ", 6), ("1RB1RZ_1LB0RC_1LC1LA", 21), ("1RB1LB_1LA0LC_1RZ1LD_1RD0RA", 107)]:
            machine = parse(line)
            rows = [row + (PLAIN,) for row in machine]
            wide = tuple(rows)
            for count in (1, 5, steps - 1):
                self.assertEqual(children(wide, count), [])
            for count in (steps, steps + 1, 5000):
                self.assertEqual(children(wide, count), plain_children(wide, count))
                self.assertNotEqual(children(wide, count), [])

    def test_fewer_than_two_stopping_rules(self):
        self.assertEqual(below("1RB1LB_1LA1RZ", 6), [])
        self.assertEqual(below("1RA0RA_1LA1RZ", 9), [])
        self.assertEqual(below("1RZ1RA", 9), [])
        # Those that the run does not use count, too.
        self.assertEqual(len(below("1RB1RA_1RZ1LZ", 9)), 8)
        self.assertEqual(len(below("1RB1LZ_1RZ1LB", 9)), 8)
        self.assertEqual(below("1RB1LA_1RZ1LB", 9), [])

    def test_a_machine_that_does_not_stop(self):
        self.assertEqual(below("1RA1RZ", 5000), [])
        self.assertEqual(below("1RB1RZ_1RA1RB_1RZ1RZ", 100), [])
        self.assertEqual(below("0RB1LZ_0LA1LZ", 5000), [])

    def test_only_to_the_right_if_there_are_only_stopping_rules(self):
        self.assertEqual(below("0LZ2LZ1RZ", 1), ["0RA2LZ1RZ", "1RA2LZ1RZ"])
        found = below("1RZ0LZ_1LZ1RZ", 1)
        self.assertEqual(found, ["0RA0LZ_1LZ1RZ", "0RB0LZ_1LZ1RZ", "1RA0LZ_1LZ1RZ", "1RB0LZ_1LZ1RZ"])
        self.assertEqual(below("1RZ1RA", 1), [])
        # A rule that does not stop, though it is not used, leaves both sides open.
        self.assertEqual(below("1RZ0RA1LZ", 1), ["0LA0RA1LZ", "0RA0RA1LZ", "1LA0RA1LZ", "1RA0RA1LZ"])

    def test_the_greatest_write(self):
        # Stopping rules do not count.
        self.assertEqual(writes("0RB3RZ3RZ3RZ_3RZ1RZ1RZ1RZ"), [0, 1])
        self.assertEqual(writes("1RB3RZ3RZ3RZ_3RZ1RZ1RZ1RZ"), [0, 1, 2])
        self.assertEqual(writes("2RB3RZ3RZ3RZ_1RZ1RZ1RZ1RZ"), [0, 1, 2, 3])
        self.assertEqual(writes("3RB1RZ1RZ1RZ_1RZ1RZ1RZ1RZ"), [0, 1, 2, 3])
        self.assertEqual(writes("1RB1RZ1RZ_1RZ1RZ1RZ"), [0, 1, 2])
        self.assertEqual(writes("2RB1RZ1RZ_1RZ1RZ1RZ"), [0, 1, 2])
        self.assertEqual(writes("1RB1RZ_1RZ1RZ"), [0, 1])
        # Rules that are not used do.
        self.assertEqual(writes("0RB1RZ1RZ1RZ_1RZ1RZ2LA1RZ"), [0, 1, 2, 3])
        self.assertEqual(writes("0RB1RZ1RZ1RZ_1RZ1RZ1LA1RZ"), [0, 1, 2])

    def test_the_greatest_state(self):
        self.assertEqual(targets("0RB1RZ_1RZ1RZ_1RZ1RZ_1RZ1RZ"), [0, 1, 2])
        self.assertEqual(targets("0RC1RZ_1RZ1RZ_1RZ1RZ_1RZ1RZ"), [0, 1, 2, 3])
        self.assertEqual(targets("0RD1RZ_1RZ1RZ_1RZ1RZ_1RZ1RZ"), [0, 1, 2, 3])
        self.assertEqual(targets("0RB1RZ_1RZ1RZ_1RZ1RZ"), [0, 1, 2])
        self.assertEqual(targets("0RB1RZ_1RZ1RZ"), [0, 1])
        # Rules that are not used count, too.
        self.assertEqual(targets("0RB1RZ_1RZ1RC_1RZ1RZ_1RZ1RZ"), [0, 1, 2, 3])
        self.assertEqual(targets("1RZ0LA_1RZ1RZ_1RZ1RZ_1RZ1RZ"), [0, 1])

    def test_all_kinds_of_machines(self):
        families = 0
        for machine in some_machines(7, 25):
            for count in (1, 2, 3, 7, 40):
                found = children(machine=machine, count=count)
                self.assertEqual(found, plain_children(machine, count), text(machine))
                families += found != []
        self.assertGreater(families, 300)

    def test_all_machines_of_one_state(self):
        for machine in all_machines(1, 2):
            for count in (0, 1, 2, 9):
                self.assertEqual(children(machine, count), plain_children(machine, count))

    def test_each_result_is_a_list_of_its_own(self):
        machine = root(2, 2)
        first = children(machine, 5)
        self.assertIs(type(first), list)
        expected = list(first)
        first.append("more")
        first[0] = "other"
        second = children(machine, 5)
        self.assertEqual(second, expected)
        second.clear()
        self.assertEqual(children(machine, 5), expected)
        none = children(machine, 0)
        none.append("more")
        self.assertEqual(children(machine, 0), [])
        none = children(parse("1RA1RZ"), 9)
        none.append("more")
        self.assertEqual(children(parse("1RA1RZ"), 9), [])


def replaced(line):
    machine = parse(line)
    found = children(machine, 9)
    return [
        rule for child in found for row, old in zip(child, machine) for rule, other in zip(row, old) if rule != other
    ]


def writes(line):
    return sorted({rule[0] for rule in replaced(line)})


def targets(line):
    return sorted({rule[2] for rule in replaced(line)})


class Tree(unittest.TestCase):
    def test_one_state(self):
        for count in (1, 2, 50):
            self.assertEqual([text(machine) for machine in tree(1, 2, count, 9)], ["1RZ1RZ", "0RA1RZ", "1RA1RZ"])

    def test_each_machine_stands_before_its_children(self):
        lines = [text(machine) for machine in tree(states=2, symbols=2, count=50, most=100)]
        self.assertEqual(lines[:8], [
            "1RZ1RZ_1RZ1RZ", "0RA1RZ_1RZ1RZ", "0RB1RZ_1RZ1RZ", "0RB1RZ_0LA1RZ", "0RB1RZ_0LB1RZ", "0RB1RZ_0RA1RZ",
            "0RB1RZ_0RB1RZ", "0RB1RZ_1LA1RZ",
        ])
        self.assertEqual(len(lines), 61)
        self.assertEqual(lines[-1], "1RB1RZ_1RB1RZ")

    def test_no_steps(self):
        for states, symbols in SIZES:
            self.assertEqual(tree(states, symbols, 0, 1), [root(states, symbols)])

    def test_it_consists_of_the_root_and_the_trees_of_the_children(self):
        for states, symbols, count in [
            (1, 2, 3), (1, 3, 9), (1, 4, 9), (2, 2, 1), (2, 2, 2), (2, 2, 3), (2, 2, 4), (2, 2, 5), (2, 2, 6),
            (2, 2, 50), (2, 2, 500), (2, 3, 4), (2, 3, 20), (2, 4, 5), (3, 2, 5), (3, 2, 21), (3, 3, 4), (4, 2, 5),
            (3, 4, 3), (4, 3, 3), (4, 4, 3),
        ]:
            found = tree(states, symbols, count, 10 ** 6)
            self.assertEqual(found, plain_tree(states, symbols, count), (states, symbols, count))
            self.assertEqual(len(set(found)), len(found))

    def test_the_number_of_machines(self):
        for states, symbols, count, many in [(1, 3, 50, 3), (2, 2, 50, 61), (2, 3, 50, 3013), (3, 2, 50, 5417)]:
            self.assertEqual(len(tree(states, symbols, count, many)), many)

    def test_too_large(self):
        for states, symbols, count in [(1, 2, 1), (1, 4, 5), (2, 2, 1), (2, 2, 3), (2, 2, 50), (2, 3, 9), (3, 2, 7)]:
            found = tree(states, symbols, count, 10 ** 6)
            for most in (len(found), len(found) + 1, 10 ** 30):
                self.assertEqual(tree(states, symbols, count, most), found)
            for most in {len(found) - 1, len(found) // 2 + 1, 2, 1}:
                with self.assertRaises(TooLarge):
                    tree(states, symbols, count, most)

    def test_a_large_tree_is_given_up_early(self):
        with self.assertRaises(TooLarge):
            tree(4, 4, 50, 1000)

    def test_each_normal_form_with_a_stopping_rule_is_in_it(self):
        machines = all_machines(2, 2)
        for count in (1, 2, 3, 6, 30):
            found = {machine: True for machine in tree(2, 2, count, 1000)}
            forms = {normal_form(machine, count) for machine in machines}
            self.assertEqual({one for one in forms if has_stop(one)}, set(found))

    def test_normal_forms_of_other_sizes(self):
        numbers = Numbers(8)
        for states, symbols, count in [(1, 3, 9), (1, 4, 9), (2, 3, 8), (3, 2, 12), (2, 4, 4), (3, 3, 4), (4, 2, 6)]:
            found = {machine: True for machine in tree(states, symbols, count, 10 ** 6)}
            for machine in found:
                self.assertEqual(normal_form(machine, count), machine)
            for _ in range(400):
                one = normal_form(some_machine(numbers, states, symbols), count)
                self.assertEqual(one in found, has_stop(one))

    def test_each_result_is_a_list_of_its_own(self):
        first = tree(2, 2, 5, 100)
        self.assertIs(type(first), list)
        expected = list(first)
        first.append("more")
        first[0] = "other"
        self.assertEqual(tree(2, 2, 5, 100), expected)

    def test_no_answer_depends_on_earlier_calls(self):
        first = [tree(2, 2, count, 100) for count in range(9)]
        with self.assertRaises(TooLarge):
            tree(2, 2, 50, 7)
        tree(2, 3, 5, 10000)
        self.assertEqual([tree(2, 2, count, 100) for count in range(9)], first)
        machine = parse("2LC1RZ0RC_0RA1LA2LA_1RA2RB0LB")
        forms = [normal_form(machine, count) for count in range(9)]
        self.assertEqual([normal_form(machine, 8 - count) for count in range(9)], forms[::-1])


if __name__ == "__main__":
    unittest.main()
