"""Closed sets: configurations that no step leaves, told by automata that read the cells on both sides of the head."""

from tacet.errors import TooLarge
from tacet.kinds import is_tuple, is_within
from tacet.machines import STOP
from tacet.tapes import symbol_at

MOST_ROWS = 64
MOST_ELEMENTS = 3000


def is_automaton(value, symbols):
    """Return True if the value is an automaton for this number of symbols."""
    if not is_tuple(value, 1, MOST_ROWS):
        return False
    limits = (len(value),) * symbols
    return all([_is_below(row, limits) for row in value]) and value[0][0] == 0


def _is_below(value, limits):
    """Return True if the value is a tuple with a number from 0 on and below each of the limits."""
    if not is_tuple(value, len(limits), len(limits)):
        return False
    return all([is_within(number, 0, limit - 1) for number, limit in zip(value, limits)])


def is_right(machine, value):
    """Return True if the value is a closed set that is right for the machine."""
    if not _is_closed_set(machine, value):
        return False
    left, right, left_edges, right_edges, quads = value
    if (0, 0) not in left_edges or (0, 0) not in right_edges or (0, 0, 0, 0) not in quads:
        return False
    known = {quad: True for quad in quads}
    edges = {-1: left_edges, 1: right_edges}
    sources = {-1: _sources(left, left_edges), 1: _sources(right, right_edges)}
    return all([_is_kept(_demand(machine, left, right, quad), edges, sources, known) for quad in quads])


def _is_closed_set(machine, value):
    """Return True if the value has the form of a closed set for the machine, in ascending order."""
    symbols = len(machine[0])
    if not is_tuple(value, 5, 5):
        return False
    left, right, left_edges, right_edges, quads = value
    if not is_automaton(left, symbols) or not is_automaton(right, symbols):
        return False
    if not _is_ascending(left_edges, (len(left), symbols)) or not _is_ascending(right_edges, (len(right), symbols)):
        return False
    return is_tuple(quads, 0, MOST_ELEMENTS) and _is_ascending(quads, (len(left), len(machine), symbols, len(right)))


def _is_ascending(value, limits):
    """Return True if the value is a tuple of tuples below the limits, in ascending order without repetition."""
    if not isinstance(value, tuple) or not all([_is_below(part, limits) for part in value]):
        return False
    return all([early < late for early, late in zip(value, value[1:])])


def _sources(automaton, edges):
    """Return the list that has, for each row of the automaton, the list of the edges that lead to it."""
    found = [[] for _ in automaton]
    for row, symbol in edges:
        found[automaton[row][symbol]].append((row, symbol))
    return found


def _demand(machine, left, right, quad):
    """Return what a step from the element of a closed set demands, or None if the step stops.

    This is a tuple (move, edge, behind, state, ahead): the edge is one of the side that the head leaves, with
    the row behind. For each edge of the other side that leads to the row ahead, the step leads to an element.
    """
    left_row, state, symbol, right_row = quad
    write, move, after = machine[state][symbol]
    if after == STOP:
        return None
    if move == 1:
        return (move, (left_row, write), left[left_row][write], after, right_row)
    return (move, (right_row, write), right[right_row][write], after, left_row)


def _led_to(move, behind, state, edge):
    """Return the element to which a step leads if the head comes to the symbol of the edge."""
    row, symbol = edge
    return (behind, state, symbol, row) if move == 1 else (row, state, symbol, behind)


def _is_kept(demand, edges, sources, known):
    """Return True if there is a step, and what it demands is there."""
    if demand is None:
        return False
    move, edge, behind, state, ahead = demand
    if edge not in edges[-move]:
        return False
    return all([_led_to(move, behind, state, source) in known for source in sources[move][ahead]])


class Closure:
    """The edges and elements that are demanded, as they are found.

    A side is -1 or 1. For each row of a side, `sources` has the edges that lead to it, and `waiting` the
    pairs (behind, state) for which each of these edges demands an element.
    """

    def __init__(self, left, right):
        self.automata = {-1: left, 1: right}
        self.sources = {-1: [[] for _ in left], 1: [[] for _ in right]}
        self.waiting = {-1: [[] for _ in left], 1: [[] for _ in right]}
        self.edges = {-1: {}, 1: {}}
        self.quads = []
        self.known = {}

    def add_edge(self, side, edge):
        """Add an edge of the side."""
        if edge in self.edges[side]:
            return
        self.edges[side][edge] = True
        row, symbol = edge
        target = self.automata[side][row][symbol]
        self.sources[side][target].append(edge)
        for behind, state in self.waiting[side][target]:
            self.add_quad(_led_to(side, behind, state, edge))

    def add_waiting(self, side, row, behind, state):
        """Add the elements for each edge of the side behind which is the row, now and later."""
        if (behind, state) in self.waiting[side][row]:
            return
        self.waiting[side][row].append((behind, state))
        for edge in self.sources[side][row]:
            self.add_quad(_led_to(side, behind, state, edge))

    def add_quad(self, quad):
        """Add an element. Raises TooLarge if these are too many."""
        if quad not in self.known:
            self.known[quad] = True
            self.quads.append(quad)
            if len(self.quads) > MOST_ELEMENTS:
                raise TooLarge("the closed set would be too large")


def close(machine, left, right):
    """Return the least closed set with the two automata, or None. Raises TooLarge."""
    closure = Closure(left, right)
    closure.add_edge(-1, (0, 0))
    closure.add_edge(1, (0, 0))
    closure.add_quad((0, 0, 0, 0))
    done = 0
    stops = False
    while done < len(closure.quads):
        demand = _demand(machine, left, right, closure.quads[done])
        done += 1
        if demand is None:
            # The others are still looked at, because there may be too many of them.
            stops = True
            continue
        move, edge, behind, state, ahead = demand
        closure.add_edge(-move, edge)
        closure.add_waiting(move, ahead, behind, state)
    if stops:
        return None
    edges = [tuple(sorted(closure.edges[side])) for side in (-1, 1)]
    return (left, right, edges[0], edges[1], tuple(sorted(closure.quads)))


def reads(machine, closed_set, configuration):
    """Return the pair of the tuple (l, s, x, r) of the configuration, and whether it belongs to the closed set."""
    left, right, left_edges, right_edges, quads = closed_set
    state, place, first, cells = configuration
    before = [symbol_at(configuration, at) for at in range(first, place)]
    behind = [symbol_at(configuration, at) for at in range(first + len(cells) - 1, place, -1)]
    left_row, is_left = _read(left, left_edges, before)
    right_row, is_right_side = _read(right, right_edges, behind)
    quad = (left_row, state, symbol_at(configuration, place), right_row)
    return (quad, is_left and is_right_side and quad in quads)


def _read(automaton, edges, cells):
    """Return the pair of the row in which the automaton has read the cells, and whether all it met were edges."""
    known = set(edges)
    row = 0
    is_known = True
    for cell in cells:
        is_known = is_known and (row, cell) in known
        row = automaton[row][cell]
    return (row, is_known)
