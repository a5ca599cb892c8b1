"""The decision whether a machine ever stops, with evidence for it."""

from tacet.automata import MOST_GRAM, find_grams, find_small
from tacet.backward import find_dead_end
from tacet.growing import find_shape
from tacet.loops import MOST_LOOK, find_loop
from tacet.machines import STOP
from tacet.tapes import BLANK, run


def decide(machine):
    """Return evidence that the machine stops, or that it never does, or None."""
    evidence = _stop(machine, 500)
    if evidence is None:
        evidence = _quick(machine)
    if evidence is None:
        evidence = _slow(machine)
    return evidence


def _stop(machine, count):
    """Return the evidence that the machine stops within count steps, or None."""
    after, steps = run(machine, BLANK, count)
    return ("stop", steps) if after[0] == STOP else None


def _quick(machine):
    """Return the evidence that is soon found that the machine never stops, or None."""
    loop = find_loop(machine, 150)
    if loop is not None:
        return ("loop",) + loop
    depth = find_dead_end(machine, 6)
    if depth is not None:
        return ("back", depth)
    return _closed(find_grams(machine, 3))


def _closed(grams):
    return None if grams is None else ("closed", grams[0])


def _slow(machine):
    """Return the evidence that takes longer to find, or None."""
    # With more symbols there are far more automata.
    closed_set = find_small(machine, 5 - len(machine[0]))
    if closed_set is not None:
        return ("closed", closed_set)
    growing = find_shape(machine, 1000)
    if growing is not None:
        return ("shape",) + growing
    loop = find_loop(machine, 300)
    if loop is not None:
        return ("loop",) + loop
    evidence = _closed(find_grams(machine, MOST_GRAM))
    return evidence if evidence is not None else _stop(machine, MOST_LOOK)
