"""What the tests share: samples that are the same in each run, and slow, plain models of the promises."""

import itertools

SIZES = [(states, symbols) for states in range(1, 5) for symbols in range(2, 5)]
LIMIT = 10 ** 9
PLAIN = (1, 1, -1)


class Numbers:
    """Numbers that look random, but are the same in each run."""

    def __init__(self, seed):
        self.value = seed * 7919 + 12345

    def below(self, limit):
        self.value = (self.value * 6364136223846793005 + 1442695040888963407) % 2 ** 64
        return (self.value >> 33) % limit

    def pick(self, things):
        return things[self.below(len(things))]

    def shuffled(self, things):
        rest = list(things)
        return [rest.pop(self.below(len(rest))) for _ in range(len(rest))]


def all_rules(states, symbols):
    return list(itertools.product(range(symbols), (-1, 1), range(-1, states)))


def all_machines(states, symbols):
    rows = list(itertools.product(all_rules(states, symbols), repeat=symbols))
    return list(itertools.product(rows, repeat=states))


def some_machine(numbers, states, symbols):
    rules = all_rules(states, symbols)
    return tuple(tuple(numbers.pick(rules) for _ in range(symbols)) for _ in range(states))


def some_runner(numbers, states, symbols):
    """A machine that seldom stops."""
    rules = [rule for rule in all_rules(states, symbols) if rule[2] != -1 or numbers.below(4) == 0]
    return tuple(tuple(numbers.pick(rules) for _ in range(symbols)) for _ in range(states))


def some_machines(seed, many):
    """Machines of each size."""
    numbers = Numbers(seed)
    return [
        choose(numbers, states, symbols)
        for states, symbols in SIZES for choose in (some_machine, some_runner) for _ in range(many)
    ]


def some_configuration(numbers, machine, near=0):
    """A configuration that fits the machine, with its places around the given one."""
    symbols = len(machine[0])
    tape = {near + at: numbers.below(symbols) for at in range(numbers.below(9))}
    state = numbers.below(len(machine) + 1) - 1
    return settled(state, near + numbers.below(15) - 4, tape)


def some_naming(numbers, machine):
    """A renaming for the machine."""
    states = [0] + numbers.shuffled(range(1, len(machine)))
    symbols = [0] + numbers.shuffled(range(1, len(machine[0])))
    return states, symbols


def with_rule(machine, state, symbol, rule):
    rows = [list(row) for row in machine]
    rows[state][symbol] = rule
    return tuple(tuple(row) for row in rows)


def settled(state, place, tape):
    """The configuration with the symbols of a dict."""
    places = [at for at in tape if tape[at] != 0]
    if not places:
        return (state, place, 0, ())
    first, last = min(places), max(places)
    return (state, place, first, tuple(tape.get(at, 0) for at in range(first, last + 1)))


def too_large(configuration):
    _, place, first, cells = configuration
    return not (-LIMIT <= place <= LIMIT and -LIMIT <= first <= LIMIT and len(cells) <= 10000)


def plain_step(machine, configuration):
    """The configuration after one step, however large it is."""
    state, place, first, cells = configuration
    tape = {first + index: cell for index, cell in enumerate(cells)}
    write, move, new = machine[state][tape.get(place, 0)]
    tape[place] = write
    return settled(new, place + move, tape)


def plain_run(machine, configuration, count):
    """The pair of the configuration and the steps, or None if a configuration on the way is too large."""
    for done in range(count):
        if configuration[0] == -1:
            return configuration, done
        configuration = plain_step(machine, configuration)
        if too_large(configuration):
            return None
    return configuration, count


def long_run(machine, configuration, count):
    """The pair of the configuration and the steps of a long run that knows no limits."""
    state, place, first, cells = configuration
    tape = {first + index: cell for index, cell in enumerate(cells)}
    done = 0
    while done < count and state != -1:
        tape[place], move, state = machine[state][tape.get(place, 0)]
        place, done = place + move, done + 1
    return settled(state, place, tape), done


def renamed_configuration(configuration, states, symbols):
    state, place, first, cells = configuration
    name = -1 if state == -1 else states[state]
    return (name, place, first, tuple(symbols[cell] for cell in cells))


def plain_normal_form(machine, count):
    """The normal form, in the words of the document."""
    state, place, tape = 0, 0, {}
    states, symbols, used = [0], [0], []
    for _ in range(count):
        if state == -1:
            break
        seen = tape.get(place, 0)
        write, move, new = machine[state][seen]
        used.append((state, seen))
        if new != -1:
            states += [new] * (new not in states)
            symbols += [write] * (write not in symbols)
        tape[place], place, state = write, place + move, new
    turn = -1 if used and machine[0][0][1] == -1 else 1
    states += [state for state in range(len(machine)) if state not in states]
    symbols += [symbol for symbol in range(len(machine[0])) if symbol not in symbols]
    result = [[PLAIN for _ in symbols] for _ in states]
    for state, seen in used:
        write, move, new = machine[state][seen]
        if new != -1:
            rule = (symbols.index(write), move * turn, states.index(new))
            result[states.index(state)][symbols.index(seen)] = rule
    return tuple(tuple(row) for row in result)


def plain_children(machine, count):
    """The children, in the words of the document."""
    rules = [rule for row in machine for rule in row]
    going = [rule for rule in rules if rule[2] != -1]
    state, place, tape = 0, 0, {}
    stop = None
    for _ in range(count):
        if state == -1:
            break
        stop = (state, tape.get(place, 0))
        tape[place], move, state = machine[state][tape.get(place, 0)]
        place += move
    if state != -1 or len(rules) - len(going) < 2:
        return []
    result = []
    for write, move, new in itertools.product(range(len(machine[0])), (-1, 1), range(len(machine))):
        if write > 1 + max([rule[0] for rule in going] + [0]):
            continue
        if new > 1 + max([rule[2] for rule in going] + [0]):
            continue
        if going or move == 1:
            result.append(with_rule(machine, *stop, (write, move, new)))
    return result


def plain_tree(states, symbols, count):
    def below(machine):
        return [machine] + [found for child in plain_children(machine, count) for found in below(child)]

    return below(((PLAIN,) * symbols,) * states)


def plain_history(machine, count):
    """The configurations of a run from BLANK, each as (state, place, tape) with a dict of the cells."""
    state, place, tape = 0, 0, {}
    found = [(state, place, dict(tape))]
    while len(found) <= count and state != -1:
        tape[place], move, state = machine[state][tape.get(place, 0)]
        place += move
        found.append((state, place, dict(tape)))
    return found


def plain_runs(configuration):
    """The tape of runs of a configuration with the head near its cells, in the words of the document."""
    state, place, first, cells = configuration
    tape = {first + index: cell for index, cell in enumerate(cells)}
    last = first + len(cells) - 1
    left = [tape.get(at, 0) for at in range(place - 1, first - 1, -1)] if cells else []
    right = [tape.get(at, 0) for at in range(place + 1, last + 1)] if cells else []
    sides = [tuple((symbol, len(list(part))) for symbol, part in itertools.groupby(side)) for side in (left, right)]
    return (state, place, tape.get(place, 0), sides[0], sides[1])


def some_strip(numbers, machine, longest):
    """A tape of runs that fits the machine, with runs of up to the given number of cells."""
    symbols = len(machine[0])
    sides = []
    for _ in range(2):
        runs = []
        for _ in range(numbers.below(4)):
            others = [symbol for symbol in range(symbols) if not runs or symbol != runs[-1][0]]
            runs.append((numbers.pick(others), 1 + numbers.below(longest)))
        if runs and runs[-1][0] == 0:
            runs.append((1, 1))
        sides.append(tuple(runs))
    return (numbers.below(len(machine)), numbers.below(21) - 10, numbers.below(symbols), sides[0], sides[1])


def plain_is_loop(machine, first, second, right):
    """Whether this is a loop, in the words of the document."""
    if not right:
        machine = tuple(tuple((write, -move, state) for write, move, state in row) for row in machine)
    seen = plain_history(machine, second)
    if len(seen) <= second or seen[second][0] == -1:
        return False
    early, late = seen[first], seen[second]
    by = late[1] - early[1]
    least = min(place for _, place, _ in seen[first:second + 1])
    if early[0] != late[0] or by < 0:
        return False
    # Beyond these places all cells of both configurations are blank.
    return all(early[2].get(at, 0) == late[2].get(at + by, 0) for at in range(least, 2 * second + 2))


def plain_find_loop(machine, count):
    """The loop that find_loop takes, in the words of the document."""
    for second in range(1, count + 1):
        for first in range(second - 1, -1, -1):
            for right in (True, False):
                if plain_is_loop(machine, first, second, right):
                    return (first, second, right)
    return None


def plain_cross(machine, state, index, block):
    """The crossing of a block, in the words of the document."""
    before, steps = [], 0
    while state != -1 and 0 <= index < len(block):
        if (state, index, block) in before:
            return ("never", -1, (), 0, 0)
        before.append((state, index, block))
        write, move, state = machine[state][block[index]]
        block = block[:index] + (write,) + block[index + 1:]
        index, steps = index + move, steps + 1
    kind = "stop" if state == -1 else "left" if index < 0 else "right"
    return (kind, state, block, steps, index)


def plain_crossings(machine, length, count):
    """The crossings of blocks, step by step on a plain tape."""
    state, place, tape = 0, 0, {}
    done = steps = 0
    for _ in range(count):
        start = place // length * length
        block = tuple(tape.get(start + at, 0) for at in range(length))
        kind, after, block, more, index = plain_cross(machine, state, place - start, block)
        done += 1
        if kind == "never":
            return settled(state, place, tape), done, steps, kind
        tape.update({start + at: symbol for at, symbol in enumerate(block)})
        state, place, steps = after, start + index, steps + more
        if kind == "stop":
            return settled(state, place, tape), done, steps, kind
    return settled(state, place, tape), done, steps, kind if count else ""
