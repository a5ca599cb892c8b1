"""Loops: pairs of steps between which a run repeats itself for ever."""

from tacet.machines import STOP, mirrored
from tacet.records import places, visits
from tacet.tapes import BLANK, Walk, mirrored_tape, run

MOST_LOOK = 2000


def is_loop(machine, first, second, *, right):
    """Return True if (first, second) is a loop of the machine on the right or on the left side."""
    if not 0 <= first < second:
        return False
    turned = machine if right else mirrored(machine)
    early, _ = run(turned, BLANK, first)
    late, _ = run(turned, early, second - first)
    if late[0] == STOP:
        return False
    return _is_repeated(early, late, min(places(turned, second)[first:]))


def _is_repeated(early, late, least):
    """Return True if two configurations are those of a loop on the right side.

    The run between them comes to no place less than least.
    """
    by = late[1] - early[1]
    if early[0] != late[0] or by < 0:
        return False
    return _cells_from(early, least) == _cells_from(late, least + by)


def _cells_from(configuration, place):
    """Return the symbols from the place up to the last cell that is not blank."""
    first, cells = configuration[2:]
    # Without cells there are no blanks in front of them, either.
    blanks = first - place if cells else 0
    return (0,) * blanks + cells[max(place - first, 0):]


def find_loop(machine, count):
    """Return the tuple (first, second, right) of the loop with the least second step up to count, or None."""
    walk = Walk(BLANK)
    ahead = [BLANK]
    turned = [BLANK]
    for second in range(1, count + 1):
        walk.advance(machine)
        if walk.state == STOP:
            return None
        ahead.append(walk.configuration())
        turned.append(mirrored_tape(ahead[-1]))
        on_right, on_left = _latest_first(ahead), _latest_first(turned)
        if max(on_right, on_left) >= 0:
            return (max(on_right, on_left), second, on_right >= on_left)
    return None


def _latest_first(configurations):
    """Return the greatest first step of a loop on the right side up to the last configuration, or -1."""
    late = configurations[-1]
    least = late[1]
    for first in range(len(configurations) - 2, -1, -1):
        early = configurations[first]
        least = min(least, early[1])
        if _is_repeated(early, late, least):
            return first
    return -1


def far(machine, loop, steps):
    """Return the pair of the place and the state after the steps from BLANK, with a loop of the machine."""
    first, second, _ = loop
    seen = visits(machine, second)
    rounds, rest = divmod(max(steps - first, 0), second - first)
    place, state = seen[min(steps, first) + rest]
    return (place + rounds * (seen[second][0] - seen[first][0]), state)
