"""Automata to try in closed sets."""

from tacet.closed import MOST_ROWS, close
from tacet.errors import TooLarge

MOST_GRAM = 5


def gram(count, symbols):
    """Return the gram automaton of count cells, or None if it would have too many rows."""
    rows = 1
    for _ in range(count):
        rows *= symbols
    if rows > MOST_ROWS:
        return None
    return tuple([tuple([(row * symbols + symbol) % rows for symbol in range(symbols)]) for row in range(rows)])


def plain_automata(count, symbols):
    """Return the list of the plain automata of at most count rows, in order."""
    return [automaton for rows in range(1, count + 1) for automaton in _plain_of(rows, symbols)]


def _plain_of(rows, symbols):
    """Return the list of the plain automata of so many rows, in ascending order."""
    # The numbers of the rows, one row after the other; they grow by one number at a time.
    found = [(0,)]
    for many in range(2, rows * symbols + 1):
        # At the end of a row, the number of the next row, if there is one, has occurred.
        least = min(many // symbols, rows - 1) if many % symbols == 0 else 0
        found = [
            numbers + (number,) for numbers in found for number in range(min(max(numbers) + 2, rows))
            if max(number, max(numbers)) >= least
        ]
    return [_in_rows(numbers, symbols) for numbers in found]


def _in_rows(numbers, symbols):
    return tuple([numbers[at:at + symbols] for at in range(0, len(numbers), symbols)])


def product(first, second):
    """Return the product of two automata for the same symbols."""
    pairs = [(0, 0)]
    names = {(0, 0): 0}
    rows = []
    while len(rows) < len(pairs):
        one, other = pairs[len(rows)]
        behind = list(zip(first[one], second[other]))
        for pair in behind:
            if pair not in names:
                names[pair] = len(pairs)
                pairs.append(pair)
        if len(pairs) > MOST_ROWS:
            raise TooLarge("the product would have too many rows")
        rows.append(tuple([names[pair] for pair in behind]))
    return tuple(rows)


def find_grams(machine, count):
    """Return the pair of the closed set with the gram automata of the fewest cells up to count, and their number.

    Return None if there is none.
    """
    for number in range(count + 1):
        automaton = gram(number, len(machine[0]))
        closed_set = None if automaton is None else _closed(machine, automaton, automaton)
        if closed_set is not None:
            return (closed_set, number)
    return None


def find_small(machine, count):
    """Return the closed set for the first pair of plain automata of at most count rows, or None."""
    automata = plain_automata(count, len(machine[0]))
    for left in automata:
        for right in automata:
            closed_set = _closed(machine, left, right)
            if closed_set is not None:
                return closed_set
    return None


def _closed(machine, left, right):
    """Return the closed set with the two automata, or None, also if it would be too large."""
    try:
        return close(machine, left, right)
    except TooLarge:
        return None
