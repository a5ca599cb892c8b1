"""Shapes: configurations that grow by whole words, and that a machine passes one after the other."""

from tacet.kinds import is_tuple, is_within
from tacet.machines import mirrored
from tacet.symbolic import Symbolic
from tacet.tapes import BLANK, gathered, mirrored_tape, run, shifted

MOST_REPEATS = 2
MOST_FIRST = 20
MOST_LETTERS = 24
MOST_MOVES = 1000


def is_shape(machine, value):
    """Return True if the value is a shape with a state and symbols of the machine."""
    return is_shape_below(value, len(machine), len(machine[0]))


def is_shape_below(value, states, symbols):
    """Return True if the value is a shape with a state and symbols below these numbers."""
    if not is_tuple(value, 5, 5):
        return False
    turned, state, words, repeats, first = value
    if not isinstance(turned, bool) or not is_within(state, 0, states - 1) or not is_within(first, 1, MOST_FIRST):
        return False
    if not is_tuple(repeats, 1, MOST_REPEATS) or not is_tuple(words, len(repeats) + 1, len(repeats) + 1):
        return False
    return all([_is_word(word, 0, symbols) for word in words] + [_is_word(word, 1, symbols) for word in repeats])


def _is_word(value, least, symbols):
    """Return True if the value is a tuple of least symbols or more, but not too many."""
    return is_tuple(value, least, MOST_LETTERS) and all([is_within(symbol, 0, symbols - 1) for symbol in value])


def shape_tape(shape, number):
    """Return the configuration of the machine itself with this number, with the head at the place 0."""
    turned, state, words, repeats, _ = shape
    cells = shape_cells(words, repeats, number)
    configuration = gathered(state, 0, -len(cells), [(symbol, 1) for symbol in cells])
    return mirrored_tape(configuration) if turned else configuration


def shape_cells(words, repeats, number):
    """Return the tape with this number, as a tuple of its symbols from left to right."""
    cells = words[0]
    for repeat, word in zip(repeats, words[1:]):
        cells += repeat * number + word
    return cells


def has_shape(machine, start, shape):
    """Return True if the shape is one of the machine from the step start on."""
    turned, state, words, repeats, first = shape
    after, _ = run(machine, BLANK, start)
    if shifted(after, -after[1]) != shape_tape(shape, first):
        return False
    items = list(words[0])
    for repeat, word in zip(repeats, words[1:]):
        items += [(repeat, 0)] + list(word)
    symbolic = Symbolic(mirrored(machine) if turned else machine, state, items, first)
    for _ in range(MOST_MOVES):
        if not symbolic.proceed():
            return False
        if symbolic.state == state and symbolic.is_at_right_end() and _is_next(symbolic, shape):
            return True
    return False


def _is_next(symbolic, shape):
    """Return True if the left side stands for the tapes of the shape with the numbers n + 1."""
    _, _, words, repeats, first = shape
    for number in range(first, first + (1 << (len(repeats) + 1))):
        expected = shape_cells(words, repeats, number + 1)
        if without_blanks(symbolic.left_cells(number)) != without_blanks(expected):
            return False
    return True


def without_blanks(cells):
    """Return the cells without the blanks in front."""
    blanks = 0
    while blanks < len(cells) and cells[blanks] == 0:
        blanks += 1
    return cells[blanks:]
