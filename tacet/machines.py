"""Machines, their text, and machines that are alike."""

from tacet.errors import BadNames, BadText
from tacet.kinds import is_tuple, is_within

MOST_STATES = 4
MOST_SYMBOLS = 4
STOP = -1

_LETTERS = "ABCD"
_SYMBOL_OF = {"0": 0, "1": 1, "2": 2, "3": 3}
_MOVE_OF = {"L": -1, "R": 1}
_STATE_OF = {"A": 0, "B": 1, "C": 2, "D": 3, "Z": -1}


def is_machine(value):
    """Return True if the value is a machine."""
    if not is_tuple(value, 1, MOST_STATES):
        return False
    if not is_tuple(value[0], 2, MOST_SYMBOLS):
        return False
    return all([_is_row(row, len(value), len(value[0])) for row in value])


def _is_row(row, states, symbols):
    return is_tuple(row, symbols, symbols) and all([_is_rule(rule, states, symbols) for rule in row])


def _is_rule(rule, states, symbols):
    if not is_tuple(rule, 3, 3):
        return False
    write, move, state = rule
    if not is_within(move, -1, 1) or move == 0:
        return False
    return is_within(write, 0, symbols - 1) and is_within(state, STOP, states - 1)


def text(machine):
    """Return the text of a machine."""
    return "_".join(["".join([_rule_text(rule) for rule in row]) for row in machine])


def _rule_text(rule):
    write, move, state = rule
    side = "L" if move == -1 else "R"
    letter = "Z" if state == STOP else _LETTERS[state]
    return f"{write}{side}{letter}"


def parse(line):
    """Return the machine with this text."""
    # Signs that mean nothing are read as parts of no rule, so is_machine finds every fault.
    machine = tuple([_read_row(part) for part in line.split("_")])
    if not is_machine(machine):
        raise BadText("this is the text of no machine")
    return machine


def _read_row(part):
    return tuple([_read_rule(part[at:at + 3]) for at in range(0, len(part), 3)])


def _read_rule(signs):
    if len(signs) != 3:
        return ()
    return (_SYMBOL_OF.get(signs[0]), _MOVE_OF.get(signs[1]), _STATE_OF.get(signs[2]))


def mirrored(machine):
    """Return the machine with the opposite moves."""
    return tuple([tuple([(write, -move, state) for write, move, state in row]) for row in machine])


def renamed(machine, states, symbols):
    """Return the machine with new names: the state s becomes states[s], the symbol x symbols[x]."""
    if not _is_naming(states, len(machine)) or not _is_naming(symbols, len(machine[0])):
        raise BadNames("these lists are not a renaming for the machine")
    return tuple([_renamed_row(machine[states.index(name)], states, symbols) for name in range(len(states))])


def _is_naming(names, many):
    if not isinstance(names, list) or not all([is_within(name, 0, many - 1) for name in names]):
        return False
    return names[:1] == [0] and sorted(names) == list(range(many))


def _renamed_row(row, states, symbols):
    return tuple([_renamed_rule(row[symbols.index(name)], states, symbols) for name in range(len(symbols))])


def _renamed_rule(rule, states, symbols):
    write, move, state = rule
    return (symbols[write], move, STOP if state == STOP else states[state])
