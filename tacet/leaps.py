"""Tapes as runs of equal symbols, and leaps over such runs."""

from tacet.errors import Stopped, TooLarge
from tacet.machines import STOP
from tacet.tapes import gathered, symbol_at

MOST_RUNS = 1000
# The greatest count of a run, and the farthest place of the head, on a tape of runs.
GREATEST = 1000000000000000000


class Strip:
    """A tape of runs that changes with each leap.

    `sides` holds the runs on the left (-1) and on the right (1) of the head, the nearest one last,
    because a leap puts and takes runs at that end.
    """

    def __init__(self, tape):
        state, place, symbol, left, right = tape
        self.state = state
        self.place = place
        self.symbol = symbol
        self.sides = {-1: list(left[::-1]), 1: list(right[::-1])}

    def jump(self, machine):
        """Do a leap, and return the number of its steps: 0, and nothing changes, if the machine is endless."""
        write, move, state = machine[self.state][self.symbol]
        steps = self._reach(move) if state == self.state else 1
        if steps == 0:
            return 0
        if steps > 1:
            self.sides[move].pop()
        _put(self.sides[-move], write, steps)
        self.symbol = _take(self.sides[move])
        self.place += move * steps
        self.state = state
        return steps

    def _reach(self, move):
        """Return how many cells from the head on have its symbol, or 0 if they are endlessly many."""
        ahead = self.sides[move]
        if not ahead:
            return 0 if self.symbol == 0 else 1
        symbol, count = ahead[-1]
        return count + 1 if symbol == self.symbol else 1

    def is_beyond_limits(self, depth):
        """Return True if the tape is too large, where only the depth nearest runs of each side may be too long."""
        sides = [self.sides[-1], self.sides[1]]
        if abs(self.place) > GREATEST or max([len(runs) for runs in sides]) > MOST_RUNS:
            return True
        return any([count > GREATEST for runs in sides for _, count in runs[-depth:]])

    def tape(self):
        """Return the tape of runs as a tuple."""
        left, right = self.sides[-1], self.sides[1]
        return (self.state, self.place, self.symbol, tuple(left[::-1]), tuple(right[::-1]))


def _put(runs, symbol, count):
    """Add cells beside the head to the runs of a side, the nearest one last."""
    if runs and runs[-1][0] == symbol:
        count += runs.pop()[1]
    # Behind the last run all cells are blank, so blanks are no run there.
    if runs or symbol != 0:
        runs.append((symbol, count))


def _take(runs):
    """Take the cell beside the head off the runs of a side, the nearest one last, and return its symbol."""
    if not runs:
        return 0
    symbol, count = runs.pop()
    if count > 1:
        runs.append((symbol, count - 1))
    return symbol


def to_runs(configuration):
    """Return the tape of runs of the configuration."""
    state, place, first, cells = configuration
    # The cells beside the head come last, and before them the blanks between the head and the cells.
    left = _runs(cells[:max(place - first, 0)], place - first - len(cells))
    right = _runs(cells[max(place + 1 - first, 0):][::-1], first - place - 1)
    tape = (state, place, symbol_at(configuration, place), tuple(left[::-1]), tuple(right[::-1]))
    if Strip(tape).is_beyond_limits(MOST_RUNS):
        raise TooLarge("the tape of runs would be too large")
    return tape


def _runs(cells, blanks):
    """Return the list of the runs of the cells, and of the blanks behind them if this number is above 0."""
    runs = []
    for cell in cells:
        _put(runs, cell, 1)
    if blanks > 0:
        _put(runs, 0, blanks)
    return runs


def from_runs(tape):
    """Return the configuration of the tape of runs."""
    state, place, symbol, left, right = tape
    start = place - sum([count for _, count in left])
    return gathered(state, place, start, list(left[::-1]) + [(symbol, 1)] + list(right))


def leap(machine, tape):
    """Return the pair of the tape after a leap and the number of its steps, 0 if the machine is endless."""
    if tape[0] == STOP:
        raise Stopped("there is no leap in the state STOP")
    strip = Strip(tape)
    steps = strip.jump(machine)
    if steps > 0 and strip.is_beyond_limits(MOST_RUNS):
        raise TooLarge("the leap leads to a tape that is too large")
    return (strip.tape(), steps)


def leaps(machine, tape, count):
    """Do at most count leaps. Return the tape, their number, the number of steps, and True if it ends endless."""
    strip = Strip(tape)
    done = steps = 0
    while done < count and strip.state != STOP:
        more = strip.jump(machine)
        if more == 0:
            return (strip.tape(), done, steps, True)
        done += 1
        steps += more
        # After the first leap no run is too long, and each further leap makes only one beside the head longer.
        if strip.is_beyond_limits(MOST_RUNS if done == 1 else 1):
            raise TooLarge("a leap leads to a tape that is too large")
    return (strip.tape(), done, steps, False)
