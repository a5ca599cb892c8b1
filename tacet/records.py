"""What a run from the blank tape visits: its places, its records, and the rules that it uses."""

from tacet.machines import STOP
from tacet.tapes import trace


def visits(machine, count):
    """Return the list of the pairs (place, state) of the configurations of a run from BLANK.

    The run is short, and knows no limits but its count.
    """
    place = 0
    found = [(0, 0)]
    for state, symbol in trace(machine, count):
        _, move, after = machine[state][symbol]
        place += move
        found.append((place, after))
    return found


def places(machine, count):
    """Return the list of the places of a run of count steps from BLANK."""
    return [place for place, _ in visits(machine, count)]


def records(machine, count, *, right):
    """Return the list of the records (number, place, state) of the run on the right or on the left side."""
    side = 1 if right else -1
    farthest = 0
    found = []
    for number, (place, state) in enumerate(visits(machine, count)):
        if side * place > farthest and state != STOP:
            farthest = side * place
            found.append((number, place, state))
    return found


def used(machine, count):
    """Return the list of the pairs (state, symbol) whose rules the run uses, in the order of their first use."""
    return list({pair: True for pair in trace(machine, count)})
