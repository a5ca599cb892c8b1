"""Steps backwards: what may have come before a machine stops."""

from tacet.errors import TooLarge
from tacet.machines import STOP
from tacet.tapes import BLANK, run

MOST_DEPTH = 20
MOST_PARTIALS = 300


def level(machine, depth):
    """Return the list of the partial configurations (state, index, cells) of the level with this number."""
    partials = _level_zero(machine)
    for _ in range(depth):
        partials = _level_before(machine, partials)
        if len(partials) > MOST_PARTIALS:
            raise TooLarge("a level has too many partial configurations")
    return partials


def _level_zero(machine):
    return [(state, 0, (symbol,)) for state, symbol, rule in _numbered(machine) if rule[2] == STOP]


def _numbered(machine):
    """Return the list of the tuples (state, symbol, rule) of the machine, in order."""
    return [(state, symbol, rule) for state, row in enumerate(machine) for symbol, rule in enumerate(row)]


def _level_before(machine, partials):
    """Return the list of the predecessors of all the partial configurations, each once, in order."""
    rules = _numbered(machine)
    found = {}
    for partial in partials:
        for state, symbol, rule in rules:
            before = _predecessor(partial, state, symbol, rule)
            if before is not None:
                found[before] = True
    return sorted(found)


def _predecessor(partial, state, symbol, rule):
    """Return the predecessor by the rule with the number symbol of the row state, or None."""
    after, index, cells = partial
    write, move, leads_to = rule
    head = index - move
    if leads_to != after:
        return None
    if head < 0:
        return (state, 0, (symbol,) + cells)
    if head == len(cells):
        return (state, head, cells + (symbol,))
    if cells[head] != write:
        return None
    return (state, head, cells[:head] + (symbol,) + cells[head + 1:])


def is_dead_end(machine, depth):
    """Return True if the level is empty, and the machine does not stop within depth steps from BLANK."""
    partials = level(machine, depth)
    return not partials and not _stops_within(machine, depth)


def _stops_within(machine, count):
    after, _ = run(machine, BLANK, count)
    return after[0] == STOP


def find_dead_end(machine, depth):
    """Return the least number up to depth that is a dead end, without a level that is too large, or None."""
    number = 0
    partials = _level_zero(machine)
    while partials and number < depth and len(partials) <= MOST_PARTIALS:
        partials = _level_before(machine, partials)
        number += 1
    # Behind the first empty level all are empty, and who stops within these steps stops within more, too.
    if partials or _stops_within(machine, number):
        return None
    return number
