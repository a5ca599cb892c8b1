"""A search for shapes: the ways in which the tape grows from record to record."""

from tacet.machines import STOP, mirrored
from tacet.shapes import MOST_FIRST, MOST_LETTERS, has_shape, shape_cells, without_blanks
from tacet.tapes import BLANK, Walk

# Three records are compared, one of the last ones, and two before it at distances up to MOST_PERIOD.
MOST_PERIOD = 24
MOST_BACK = 4


def find_shape(machine, count):
    """Return the pair of a step up to count and a shape of the machine from this step on, or None."""
    for turned in (False, True):
        ends = _right_ends(mirrored(machine) if turned else machine, count)
        tried = {}
        for state, early, later, late in _rows_of_three(ends):
            for words, repeats in growths(early, later, late):
                family = (turned, state, words, repeats)
                if family in tried:
                    continue
                tried[family] = True
                found = _first_shape(machine, ends, family)
                if found is not None:
                    return found
    return None


def _right_ends(machine, count):
    """Return the list of the tuples (step, state, cells) of the records on the right side, and of BLANK.

    The cells are those up to the head, without blanks in front.
    """
    walk = Walk(BLANK)
    found = [(0, 0, ())]
    farthest = 0
    for step in range(1, count + 1):
        walk.advance(machine)
        if walk.state == STOP:
            return found
        if walk.place > farthest:
            farthest = walk.place
            state, place, first, cells = walk.configuration()
            blanks = place - first - len(cells) if cells else 0
            found.append((step, state, cells + (0,) * blanks))
    return found


def _rows_of_three(ends):
    """Return the list of the tuples (state, early, later, late) of the cells of three records to compare."""
    found = []
    for period in range(1, MOST_PERIOD + 1):
        for last in range(len(ends) - 1, len(ends) - 2 - min(period, MOST_BACK), -1):
            if last < 2 * period:
                continue
            _, state, early = ends[last - 2 * period]
            _, state_later, later = ends[last - period]
            _, state_late, late = ends[last]
            if state == state_later == state_late:
                found.append((state, early, later, late))
    return found


def growths(early, later, late):
    """Return the list of the pairs (words, repeats) with these tapes as three in succession."""
    by = len(later) - len(early)
    if by < 1 or len(late) - len(later) != by:
        return []
    front = _common(early, later)
    back = _common(early[::-1], later[::-1])
    single = _leading(_single_growths(early, later, front, len(early) - back), late)
    if single:
        return single
    return _leading(_double_growths(early, later, front, min(back, len(early) - front)), late)


def _common(one, other):
    """Return the number of equal cells with which both begin."""
    many = 0
    while many < min(len(one), len(other)) and one[many] == other[many]:
        many += 1
    return many


def _single_growths(early, later, greatest, least):
    """Return the list of the tuples (words, repeats, number) where one repeat is put in, at a place of these."""
    by = len(later) - len(early)
    found = []
    # Beyond a whole repeat the words would be those of another place, with more copies in the last one.
    for at in range(greatest, max(least - 1, greatest - by), -1):
        repeat = later[at:at + by]
        number = _copies(early[:at], repeat)
        found.append(((early[:at - number * by], early[at:]), (repeat,), number))
    return found


def _double_growths(early, later, front, back):
    """Return the list of the tuples (words, repeats, number) where the cells between two repeats stay."""
    head, middle, tail = early[:front], early[front:len(early) - back], early[len(early) - back:]
    grown = later[front:len(later) - back]
    found = []
    for by in range(1, len(grown) - len(middle)):
        if grown[by:by + len(middle)] == middle:
            one, other = grown[:by], grown[by + len(middle):]
            number = min(_copies(head, one), _copies(tail[::-1], other[::-1]))
            words = (head[:len(head) - number * len(one)], middle, tail[number * len(other):])
            found.append((words, (one, other), number))
    return found


def _copies(cells, word):
    """Return how often the word stands at the end of the cells."""
    many = 0
    while cells[max(len(cells) - len(word), 0):] == word:
        cells = cells[:len(cells) - len(word)]
        many += 1
    return many


def _leading(found, late):
    """Return the list of the (words, repeats) with short words whose next tape but one is late."""
    return [
        (words, repeats) for words, repeats, number in found
        if max([len(word) for word in words + repeats]) <= MOST_LETTERS
        and shape_cells(words, repeats, number + 2) == late
    ]


def _first_shape(machine, ends, family):
    """Return the pair of a step and the shape of the family with the least first number, or None."""
    _, state, words, repeats = family
    numbers = {without_blanks(shape_cells(words, repeats, number)): number for number in range(1, MOST_FIRST + 1)}
    starts = [(step, numbers[cells]) for step, state_then, cells in ends if state_then == state and cells in numbers]
    # A shape from some number on is one from each later number on.
    if not starts or not has_shape(machine, starts[-1][0], family + (starts[-1][1],)):
        return None
    for step, number in starts:
        if has_shape(machine, step, family + (number,)):
            return (step, family + (number,))
    return None
