"""Evidence that a machine stops, or that it never does: what it shows, and its text."""

from tacet.backward import MOST_DEPTH, is_dead_end
from tacet.closed import is_right
from tacet.errors import BadText, TooLarge
from tacet.kinds import is_tuple, is_within
from tacet.loops import MOST_LOOK, is_loop
from tacet.machines import MOST_STATES, MOST_SYMBOLS, STOP
from tacet.shapes import has_shape, is_shape, is_shape_below
from tacet.tapes import BLANK, run

MOST_NUMBER = 1000000
# No tuple is so long that its length has more digits.
MOST_DIGITS = 18


def is_evidence(value):
    """Return True if the value is evidence of one of the forms."""
    if not is_tuple(value, 2, 4):
        return False
    kind, parts = value[0], value[1:]
    if kind in ("stop", "back"):
        return len(parts) == 1 and _is_number(parts[0])
    if kind == "loop":
        return len(parts) == 3 and _is_number(parts[0]) and _is_number(parts[1]) and isinstance(parts[2], bool)
    if kind == "closed":
        return len(parts) == 1 and _has_form_of_closed_set(parts[0])
    if kind == "shape":
        return len(parts) == 2 and _is_number(parts[0]) and is_shape_below(parts[1], MOST_STATES, MOST_SYMBOLS)
    return False


def _is_number(value):
    return is_within(value, 0, MOST_LOOK)


def _has_form_of_closed_set(value):
    if not is_tuple(value, 5, 5):
        return False
    if not all([isinstance(part, tuple) and all([isinstance(row, tuple) for row in part]) for part in value]):
        return False
    left, right, left_edges, right_edges, quads = value
    if not all([len(edge) == 2 for edge in left_edges + right_edges]) or not all([len(quad) == 4 for quad in quads]):
        return False
    rows = left + right + left_edges + right_edges + quads
    return all([is_within(number, 0, MOST_NUMBER) for row in rows for number in row])


def shows(machine, evidence):
    """Return "stops" or "runs" if the evidence shows that the machine stops, or that it never does, or else ""."""
    if not is_evidence(evidence):
        return ""
    if evidence[0] == "stop":
        after, steps = run(machine, BLANK, evidence[1])
        return "stops" if after[0] == STOP and steps == evidence[1] else ""
    return "runs" if _shows_that_it_runs(machine, evidence) else ""


def _shows_that_it_runs(machine, evidence):
    kind, parts = evidence[0], evidence[1:]
    if kind == "loop":
        first, second, right = parts
        return is_loop(machine, first, second, right=right)
    if kind == "back":
        return _shows_dead_end(machine, parts[0])
    if kind == "closed":
        return is_right(machine, parts[0])
    start, shape = parts
    return is_shape(machine, shape) and has_shape(machine, start, shape)


def _shows_dead_end(machine, depth):
    if depth > MOST_DEPTH:
        return False
    try:
        return is_dead_end(machine, depth)
    except TooLarge:
        return False


def evidence_text(evidence):
    """Return the text of evidence."""
    return " ".join([evidence[0]] + [str(number) for number in _numbers(evidence)])


def _numbers(evidence):
    """Return the list of the numbers in the text of evidence."""
    kind, parts = evidence[0], evidence[1:]
    if kind == "loop":
        first, second, right = parts
        return [first, second, _flag(right)]
    if kind == "closed":
        left, right, left_edges, right_edges, quads = parts[0]
        found = _numbers_of_rows(left) + _numbers_of_rows(right)
        return found + _numbers_of_list(left_edges) + _numbers_of_list(right_edges) + _numbers_of_list(quads)
    if kind == "shape":
        start, (turned, state, words, repeats, first) = parts
        return [start, _flag(turned), state] + _numbers_of_rows(words) + _numbers_of_rows(repeats) + [first]
    return [parts[0]]


def _flag(value):
    return 1 if value else 0


def _numbers_of_rows(rows):
    """Return the list of the numbers of a tuple of tuples of variable length."""
    return [len(rows)] + [number for row in rows for number in (len(row),) + row]


def _numbers_of_list(parts):
    """Return the list of the numbers of a tuple of tuples of fixed length."""
    return [len(parts)] + [number for part in parts for number in part]


class Reader:
    """The words of a line that are still to be read."""

    def __init__(self, line):
        self.words = line.split(" ")
        self.at = 0

    def word(self):
        """Return the next word."""
        if self.at == len(self.words):
            raise BadText("the line ends too early")
        self.at += 1
        return self.words[self.at - 1]

    def number(self):
        """Return the number that the next word tells."""
        word = self.word()
        if not word.isdigit() or not word.isascii() or len(word) > MOST_DIGITS:
            raise BadText("a word is no number")
        return int(word)

    def flag(self):
        """Return True for the number 1."""
        return self.number() == 1

    def row(self):
        """Return the tuple of variable length with the next numbers."""
        return self.part(self.number())

    def part(self, many):
        """Return the tuple of so many numbers."""
        return tuple([self.number() for _ in range(many)])

    def rows(self):
        """Return the tuple of tuples of variable length."""
        return tuple([self.row() for _ in range(self.number())])

    def parts(self, many):
        """Return the tuple of tuples of so many numbers each."""
        return tuple([self.part(many) for _ in range(self.number())])


def read_evidence(line):
    """Return the evidence with this text."""
    evidence = _read(Reader(line))
    # The text tells what the reading passes over: leading zeros, other flags than 0 and 1, and words at the end.
    if not is_evidence(evidence) or evidence_text(evidence) != line:
        raise BadText("this is the text of no evidence")
    return evidence


def _read(reader):
    kind = reader.word()
    if kind == "loop":
        return (kind, reader.number(), reader.number(), reader.flag())
    if kind == "closed":
        return (kind, (reader.rows(), reader.rows(), reader.parts(2), reader.parts(2), reader.parts(4)))
    if kind == "shape":
        start = reader.number()
        return (kind, start, (reader.flag(), reader.number(), reader.rows(), reader.rows(), reader.number()))
    return (kind, reader.number())


def mirrored_evidence(evidence):
    """Return the evidence that shows for the mirrored machine what this shows for a machine."""
    kind, parts = evidence[0], evidence[1:]
    if kind == "loop":
        first, second, right = parts
        return (kind, first, second, not right)
    if kind == "closed":
        left, right, left_edges, right_edges, quads = parts[0]
        turned = [(right_row, state, symbol, left_row) for left_row, state, symbol, right_row in quads]
        edges = (tuple(sorted(right_edges)), tuple(sorted(left_edges)))
        return (kind, (right, left) + edges + (tuple(sorted(turned)),))
    if kind == "shape":
        start, shape = parts
        return (kind, start, (not shape[0],) + shape[1:])
    return evidence
