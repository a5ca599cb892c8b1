"""Crossings of blocks of cells."""

from tacet.machines import STOP
from tacet.tapes import gathered

MOST_BLOCK = 6


def cross(machine, state, index, block):
    """Return the tuple (kind, state, block, steps, index) of crossing the block from an index in it."""
    cells = list(block)
    seen = set()
    steps = 0
    while state != STOP and 0 <= index < len(cells):
        moment = (state, index, tuple(cells))
        if moment in seen:
            return ("never", STOP, (), 0, 0)
        seen.add(moment)
        cells[index], move, state = machine[state][cells[index]]
        index += move
        steps += 1
    return (_kind(state, index), state, tuple(cells), steps, index)


def _kind(state, index):
    # A step that stops may leave the block, too.
    if state == STOP:
        return "stop"
    return "left" if index < 0 else "right"


def crossings(machine, length, count):
    """Do at most count crossings of the blocks of a tape, from BLANK on.

    Return the tuple of the configuration, the number of crossings, the number of steps, and the kind of the last one.
    """
    blocks = {}
    results = {}
    state = place = steps = done = 0
    kind = ""
    while done < count and kind not in ("stop", "never"):
        number, index = divmod(place, length)
        block = blocks.get(number, (0,) * length)
        # The same crossing may come again and again, and it may be long.
        if (state, index, block) not in results:
            results[(state, index, block)] = cross(machine, state, index, block)
        kind, after, changed, more, last = results[(state, index, block)]
        done += 1
        if kind != "never":
            state, blocks[number] = after, changed
            place += last - index
            steps += more
    return (_configuration(state, place, length, blocks), done, steps, kind)


def _configuration(state, place, length, blocks):
    """Return the configuration with the blocks, a dict by their numbers, in which none is left out."""
    runs = [(cell, 1) for number in sorted(blocks) for cell in blocks[number]]
    return gathered(state, place, min(blocks.keys(), default=0) * length, runs)
