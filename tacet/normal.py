"""Normal forms of machines, and the tree of the machines in normal form."""

from tacet.errors import TooLarge
from tacet.machines import STOP, mirrored, renamed
from tacet.tapes import trace

PLAIN_STOP = (1, 1, -1)


def normal_form(machine, count):
    """Return the normal form for count of the machine."""
    pairs = trace(machine, count)
    rules = [machine[state][symbol] for state, symbol in pairs]
    states = _names([rule[2] for rule in rules if rule[2] != STOP], len(machine))
    symbols = _names([rule[0] for rule in rules if rule[2] != STOP], len(machine[0]))
    rest = _used_part(machine, pairs)
    if rules and rules[0][1] == -1:
        rest = mirrored(rest)
    # The plain stopping rules come last, because the renaming would change the 1 that they write.
    return _with_plain_stops(renamed(rest, states, symbols))


def _names(seen, many):
    """Return the renaming by which 0 is first, then what is seen, in this order, then the others."""
    order = []
    for number in [0] + seen + list(range(many)):
        if number not in order:
            order.append(number)
    return [order.index(number) for number in range(many)]


def _used_part(machine, pairs):
    """Return the machine with the plain stopping rule for each pair that is not among the pairs."""
    used = {pair: True for pair in pairs}
    return tuple([
        tuple([rule if (state, symbol) in used else PLAIN_STOP for symbol, rule in enumerate(row)])
        for state, row in enumerate(machine)
    ])


def _with_plain_stops(machine):
    return tuple([tuple([PLAIN_STOP if rule[2] == STOP else rule for rule in row]) for row in machine])


def root(states, symbols):
    """Return the machine that has only plain stopping rules."""
    return ((PLAIN_STOP,) * symbols,) * states


def children(machine, count):
    """Return the list of the children for count of the machine."""
    if count < 1 or len(_rules(machine, stopping=True)) < 2:
        return []
    state, symbol = trace(machine, count)[-1]
    if machine[state][symbol][2] != STOP:
        return []
    return [_with_rule(machine, state, symbol, rule) for rule in _next_rules(machine)]


def _rules(machine, *, stopping):
    """Return the list of the rules that stop, or of those that do not."""
    return [rule for row in machine for rule in row if (rule[2] == STOP) == stopping]


def _next_rules(machine):
    """Return the list of the rules that the children have in place of a stopping rule, in order."""
    rules = _rules(machine, stopping=False)
    write_most = min(len(machine[0]) - 1, max([rule[0] for rule in rules], default=0) + 1)
    state_most = min(len(machine) - 1, max([rule[2] for rule in rules], default=0) + 1)
    moves = [-1, 1] if rules else [1]
    return [
        (write, move, state)
        for write in range(write_most + 1) for move in moves for state in range(state_most + 1)
    ]


def _with_rule(machine, state, symbol, rule):
    row = machine[state]
    changed = row[:symbol] + (rule,) + row[symbol + 1:]
    return machine[:state] + (changed,) + machine[state + 1:]


def tree(states, symbols, count, most):
    """Return the list of the machines of the tree for count, each one before its children."""
    found = []
    waiting = [root(states, symbols)]
    while waiting:
        machine = waiting.pop()
        found.append(machine)
        waiting.extend(children(machine, count)[::-1])
        # Each machine that waits is in the tree too.
        if len(found) + len(waiting) > most:
            raise TooLarge("the tree has too many machines")
    return found
