"""Configurations of the endless tape, and runs of machines on it."""

from tacet.errors import Stopped, TooLarge
from tacet.kinds import is_tuple, is_within
from tacet.machines import STOP

MOST_CELLS = 10000
FARTHEST = 1000000000
BLANK = (0, 0, 0, ())


class Walk:
    """A configuration that changes with each step.

    `marks` holds the symbols that are not blank, by their places. All of these places are from
    `low` to `high`, but there may be blanks at both ends, because symbols may come and go there
    in each step, and a search for the ends in each step would take too long.
    """

    def __init__(self, configuration):
        state, place, first, cells = configuration
        self.state = state
        self.place = place
        self.marks = {first + index: symbol for index, symbol in enumerate(cells) if symbol != 0}
        self.low = first
        self.high = first + len(cells) - 1

    def advance(self, machine):
        """Do one step. The state is not STOP."""
        write, move, state = machine[self.state][self.marks.get(self.place, 0)]
        if write != 0:
            self.marks[self.place] = write
            self.low = min(self.low, self.place)
            self.high = max(self.high, self.place)
        elif self.place in self.marks:
            del self.marks[self.place]
        self.place += move
        self.state = state

    def narrow(self):
        """Make low and high the places of the first and of the last mark."""
        self.low = min(self.marks.keys(), default=0)
        self.high = max(self.marks.keys(), default=-1)

    def is_too_large(self):
        """Return True if this configuration is too large."""
        if not self._has_room():
            self.narrow()
        return _is_too_large(self.place, self.low, self.high - self.low + 1)

    def _has_room(self):
        """Return True if low and high, though perhaps too wide, show that the cells are within the bounds."""
        if abs(self.low) > FARTHEST or self.high - self.low >= MOST_CELLS:
            return False
        # Only cells beyond the farthest place could be the first ones behind a low that is blank.
        return self.high <= FARTHEST or self.low in self.marks

    def configuration(self):
        """Return the configuration as a tuple."""
        self.narrow()
        cells = tuple([self.marks.get(place, 0) for place in range(self.low, self.high + 1)])
        return (self.state, self.place, self.low, cells)


def _is_too_large(place, first, many):
    return abs(place) > FARTHEST or abs(first) > FARTHEST or many > MOST_CELLS


def fits(machine, configuration):
    """Return True if the value is a configuration within the bounds that fits the machine."""
    if not is_tuple(configuration, 4, 4):
        return False
    state, place, first, cells = configuration
    if not is_within(state, STOP, len(machine) - 1) or not is_within(place, -FARTHEST, FARTHEST):
        return False
    return is_within(first, -FARTHEST, FARTHEST) and _are_cells(cells, first, len(machine[0]))


def _are_cells(cells, first, symbols):
    if not is_tuple(cells, 0, MOST_CELLS) or not all([is_within(cell, 0, symbols - 1) for cell in cells]):
        return False
    if not cells:
        return first == 0
    return cells[0] != 0 and cells[-1] != 0


def symbol_at(configuration, place):
    """Return the symbol in the place."""
    first, cells = configuration[2:]
    return cells[place - first] if first <= place < first + len(cells) else 0


def step(machine, configuration):
    """Return the configuration after one step."""
    if configuration[0] == STOP:
        raise Stopped("there is no step in the state STOP")
    after, _ = run(machine, configuration, 1)
    return after


def run(machine, configuration, count):
    """Return the pair of the configuration after a run of at most count steps and their number."""
    walk = Walk(configuration)
    steps = 0
    while steps < count and walk.state != STOP:
        walk.advance(machine)
        if walk.is_too_large():
            raise TooLarge("the run leads to a configuration that is too large")
        steps += 1
    return (walk.configuration(), steps)


def trace(machine, count):
    """Return the list of the pairs (state, symbol) in which the steps of a run from BLANK begin.

    The run is short, and knows no limits but its count.
    """
    tape = [0] * (2 * count + 1)
    state, place = 0, count
    pairs = []
    while len(pairs) < count and state != STOP:
        symbol = tape[place]
        pairs.append((state, symbol))
        tape[place], move, state = machine[state][symbol]
        place += move
    return pairs


def gathered(state, place, start, runs):
    """Return the configuration whose cells from start on are those of the runs (symbol, count), from left to right.

    There may be blanks at both ends of the runs. Raises TooLarge.
    """
    marked = [at for at, (symbol, _) in enumerate(runs) if symbol != 0]
    kept = runs[marked[0]:marked[-1] + 1] if marked else []
    first = start + sum([count for _, count in runs[:marked[0]]]) if marked else 0
    # A count may be so great that the cells cannot be written out.
    if _is_too_large(place, first, sum([count for _, count in kept])):
        raise TooLarge("the configuration would be too large")
    return (state, place, first, tuple([symbol for symbol, count in kept for _ in range(count)]))


def mirrored_tape(configuration):
    """Return the configuration with each symbol, and the head, at the opposite place."""
    state, place, first, cells = configuration
    last = first + len(cells) - 1
    return _moved(state, -place, -last, cells[::-1])


def shifted(configuration, by):
    """Return the configuration with all places greater by the given number."""
    state, place, first, cells = configuration
    return _moved(state, place + by, first + by, cells)


def _moved(state, place, first, cells):
    # Without cells, first does not move.
    start = first if cells else 0
    if _is_too_large(place, start, len(cells)):
        raise TooLarge("the configuration would be too large")
    return (state, place, start, cells)


def ones(configuration):
    """Return the number of cells that are not blank."""
    cells = configuration[3]
    return len(cells) - cells.count(0)
