"""Slow, plain models of what the document says of steps backwards, closed sets, automata and shapes."""

import itertools
import re

from tests.samples import settled


def plain_level(machine, depth):
    """The level, in the words of the document, or None if one of the levels up to this one is too large."""
    rules = [(s, x, rule) for s, row in enumerate(machine) for x, rule in enumerate(row)]
    level = sorted((s, 0, (x,)) for s, x, rule in rules if rule[2] == -1)
    for _ in range(depth):
        before = set()
        for state, index, cells in level:
            for s, y, (write, move, after) in rules:
                tape = dict(enumerate(cells))
                if after == state and tape.get(index - move, write) == write:
                    tape[index - move] = y
                    before.add((s, index - move - min(tape), tuple(tape[at] for at in sorted(tape))))
        level = sorted(before)
        if len(level) > 300:
            return None
    return level


def some_automaton(numbers, rows, symbols):
    table = [[numbers.below(rows) for _ in range(symbols)] for _ in range(rows)]
    table[0][0] = 0
    return tuple(tuple(row) for row in table)


def plain_is_right(machine, closed_set):
    """Whether a closed set of the right form is right, by the last four conditions of the document."""
    left, right, left_edges, right_edges, found = closed_set
    if (0, 0) not in left_edges or (0, 0) not in right_edges or (0, 0, 0, 0) not in found:
        return False
    for l, s, x, r in found:
        write, move, t = machine[s][x]
        if t == -1:
            return False
        if move == 1:
            if (l, write) not in left_edges:
                return False
            wanted = [(left[l][write], t, y, q) for q, y in right_edges if right[q][y] == r]
        else:
            if (r, write) not in right_edges:
                return False
            wanted = [(q, t, y, right[r][write]) for q, y in left_edges if left[q][y] == l]
        if not all(one in found for one in wanted):
            return False
    return True


def plain_closure(machine, left, right, seeds=()):
    """The least left edges, right edges and elements that hold the seeds, as three sets."""
    left_edges, right_edges, found = {(0, 0)}, {(0, 0)}, {(0, 0, 0, 0), *seeds}
    size = 0
    while size != len(left_edges) + len(right_edges) + len(found):
        size = len(left_edges) + len(right_edges) + len(found)
        for l, s, x, r in list(found):
            write, move, t = machine[s][x]
            if t != -1 and move == 1:
                left_edges.add((l, write))
                found |= {(left[l][write], t, y, q) for q, y in right_edges if right[q][y] == r}
            elif t != -1:
                right_edges.add((r, write))
                found |= {(q, t, y, right[r][write]) for q, y in left_edges if left[q][y] == l}
    return left_edges, right_edges, found


def plain_closed(machine, left, right, seeds=()):
    """The closed set of this closure, or None if there is a stopping rule in it."""
    left_edges, right_edges, found = plain_closure(machine, left, right, seeds)
    if any(machine[s][x][2] == -1 for _, s, x, _ in found):
        return None
    return (left, right, tuple(sorted(left_edges)), tuple(sorted(right_edges)), tuple(sorted(found)))


def plain_reads(closed_set, configuration):
    """What the automata read of a configuration, in the words of the document."""
    left, right, left_edges, right_edges, found = closed_set
    state, place, first, cells = configuration
    tape = {first + at: cell for at, cell in enumerate(cells)}
    before = range(min(first, place) - 3, place)
    behind = range(max(first + len(cells), place) + 3, place, -1)
    rows, belongs = [], True
    for automaton, edges, places in ((left, left_edges, before), (right, right_edges, behind)):
        row = 0
        for at in places:
            belongs = belongs and (row, tape.get(at, 0)) in edges
            row = automaton[row][tape.get(at, 0)]
        rows.append(row)
    quad = (rows[0], state, tape.get(place, 0), rows[1])
    return quad, belongs and quad in found


def read(automaton, cells):
    row = 0
    for cell in cells:
        row = automaton[row][cell]
    return row


def is_plain(automaton):
    """Whether an automaton is plain, in the words of the document."""
    flat = [number for row in automaton for number in row]
    firsts = list(dict.fromkeys(number for number in flat if number > 0))
    if firsts != list(range(1, len(automaton))):
        return False
    return all(n in [number for row in automaton[:n] for number in row] for n in firsts)


def all_automata(rows, symbols):
    """All automata of so many rows, in ascending order."""
    lines = list(itertools.product(range(rows), repeat=symbols))
    return [table for table in itertools.product(lines, repeat=rows) if table[0][0] == 0]


def plain_tape(shape, number):
    """The configuration number of the shape, with the head at the place 0, in the words of the document."""
    turned, state, words, repeats, _ = shape
    cells = list(words[0])
    for repeat, word in zip(repeats, words[1:]):
        cells += list(repeat) * number + list(word)
    side = -1 if turned else 1
    return settled(state, 0, {side * (at - len(cells)): cell for at, cell in enumerate(cells)})


def plain_pass(machine, state, word, move):
    """The word behind the head if it crosses one copy of the word, or None."""
    cells, index, now = list(word), 0 if move == 1 else len(word) - 1, state
    for _ in range(500):
        cells[index], turn, now = machine[now][cells[index]]
        index += turn
        if index == (len(word) if move == 1 else -1) and now == state:
            return tuple(cells)
        if now == -1 or not 0 <= index < len(word):
            return None
    return None


def plain_moves(machine, shape):
    """The symbolic configurations that the moves of the turned machine lead to: (state, symbol, left, right).

    The lists of items have the nearest one first; a block is a pair of a word and an integer.
    """
    _, state, words, repeats, first = shape
    left = list(words[0])
    for repeat, word in zip(repeats, words[1:]):
        left += [(repeat, 0), *word]
    left, right, symbol = left[::-1], [], 0
    for _ in range(1000):
        write, move, after = machine[state][symbol]
        if after == -1:
            return
        behind, ahead = (left, right) if move == 1 else (right, left)
        behind.insert(0, write)
        state = after
        while ahead and isinstance(ahead[0], tuple):
            word, e = ahead[0]
            changed = plain_pass(machine, state, word, move)
            if changed is None:
                if first + e < 1:
                    return
                ahead[:1] = list(word if move == 1 else word[::-1]) + [(word, e - 1)]
                break
            ahead.pop(0)
            behind.insert(0, (changed, e))
        symbol = ahead.pop(0) if ahead else 0
        yield state, symbol, list(left), list(right)


def plain_cells(items, number):
    """What the left items stand for, from left to right, apart from blanks in front."""
    cells = []
    for item in items[::-1]:
        cells += list(item[0]) * (number + item[1]) if isinstance(item, tuple) else [item]
    while cells and cells[0] == 0:
        cells.pop(0)
    return cells


def plain_returns(shape, place):
    """Whether a symbolic configuration returns to the shape."""
    _, goal, words, repeats, first = shape
    state, symbol, left, right = place
    if state != goal or symbol != 0 or any(item != 0 for item in right):
        return False
    for number in range(first, first + 2 ** (len(repeats) + 1)):
        wanted = list(words[0])
        for repeat, word in zip(repeats, words[1:]):
            wanted += list(repeat) * (number + 1) + list(word)
        if plain_cells(left, number) != plain_cells(wanted[::-1], number):
            return False
    return True


def plain_has_shape(machine, start, shape):
    """Whether the shape is one of the machine from the step on, in the words of the document."""
    state, place, tape = 0, 0, {}
    for _ in range(start):
        if state == -1:
            return False
        tape[place], move, state = machine[state][tape.get(place, 0)]
        place += move
    if settled(state, 0, {at - place: cell for at, cell in tape.items()}) != plain_tape(shape, shape[4]):
        return False
    if shape[0]:
        machine = tuple(tuple((write, -move, after) for write, move, after in row) for row in machine)
    return any(plain_returns(shape, place) for place in plain_moves(machine, shape))


def some_shape(numbers, machine):
    """A shape with a state and symbols of the machine, of short words."""
    def word(least):
        return tuple(numbers.below(len(machine[0])) for _ in range(least + numbers.below(4)))

    many = 1 + numbers.below(2)
    words = tuple(word(0) for _ in range(many + 1))
    repeats = tuple(word(1) for _ in range(many))
    return (numbers.below(2) == 1, numbers.below(len(machine)), words, repeats, 1 + numbers.below(20))


def some_rows(numbers, most):
    """A tuple of tuples of any lengths."""
    return tuple(tuple(numbers.below(most + 1) for _ in range(numbers.below(4))) for _ in range(numbers.below(4)))


def some_parts(numbers, most, long):
    """A tuple of tuples of the same length, in any order."""
    return tuple(tuple(numbers.below(most + 1) for _ in range(long)) for _ in range(numbers.below(4)))


def some_evidence(numbers):
    """Evidence of any form, which seldom shows anything."""
    number, other = numbers.below(2001), numbers.below(2001)
    kind = numbers.pick(["stop", "loop", "back", "closed", "shape"])
    if kind == "loop":
        return (kind, number, other, numbers.below(2) == 1)
    if kind == "closed":
        most = numbers.pick([1, 3, 12, 1000000])
        edges = (some_parts(numbers, most, 2), some_parts(numbers, most, 2))
        return (kind, (some_rows(numbers, most), some_rows(numbers, most), *edges, some_parts(numbers, most, 4)))
    if kind == "shape":
        return (kind, number, some_shape(numbers, ((0,) * 4,) * 4))
    return (kind, number)


def plain_text(evidence):
    """The text of evidence, in the words of the document."""
    def fixed(parts):
        return " ".join(str(int(part)) for part in parts)

    def variable(parts, told):
        return " ".join([str(len(parts))] + [told(part) for part in parts])

    def row(part):
        return variable(part, str)

    kind, *parts = evidence
    if kind == "closed":
        left, right, left_edges, right_edges, found = parts[0]
        told = [variable(left, row), variable(right, row)]
        told += [variable(left_edges, fixed), variable(right_edges, fixed), variable(found, fixed)]
    elif kind == "shape":
        turned, state, words, repeats, first = parts[1]
        told = [fixed((parts[0], turned, state)), variable(words, row), variable(repeats, row), str(first)]
    else:
        told = [fixed(parts)]
    return " ".join([kind] + told)


def plain_read(line):
    """The evidence with this text, or None: by what each word has to be."""
    kind, *words = line.split(" ")
    if not all(re.fullmatch("0|[1-9][0-9]{0,6}", word, re.ASCII) for word in words):
        return None
    rest = [int(word) for word in words]

    def take(many):
        if many > len(rest):
            raise LookupError
        taken = tuple(rest[:many])
        del rest[:many]
        return taken

    def rows(long=None):
        return tuple(take(take(1)[0] if long is None else long) for _ in range(take(1)[0]))

    try:
        if kind == "closed":
            found = (kind, (rows(), rows(), rows(2), rows(2), rows(4)))
        elif kind == "shape":
            start, turned, state = take(3)
            found = (kind, start, (turned, state, rows(), rows(), take(1)[0]))
        else:
            found = (kind, *take({"stop": 1, "back": 1, "loop": 3}[kind]))
    except LookupError:
        return None
    return None if rest else plain_flags(found)


def plain_flags(found):
    """The evidence with True and False where the text has 1 and 0, or None if this is no evidence."""
    kind, *parts = found
    if kind == "closed":
        numbers = [number for part in parts[0] for row in part for number in row]
        return found if max(numbers, default=0) <= 1000000 else None
    if parts[0] > 2000:
        return None
    if kind == "loop":
        first, second, right = parts
        return (kind, first, second, right == 1) if second <= 2000 and right in (0, 1) else None
    if kind == "shape":
        start, (turned, state, words, repeats, first) = parts
        symbols = [symbol for word in words + repeats for symbol in word]
        longest, shortest = max(map(len, words + repeats), default=0), min(map(len, repeats), default=0)
        if turned not in (0, 1) or state > 3 or max(symbols, default=0) > 3 or longest > 24 or shortest < 1:
            return None
        if len(repeats) not in (1, 2) or len(words) != len(repeats) + 1 or first not in range(1, 21):
            return None
        return (kind, start, (turned == 1, state, words, repeats, first))
    return found
