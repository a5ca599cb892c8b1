"""Symbolic configurations: tapes on which a word stands n times, for every n from some number on."""

from tacet.machines import STOP

MOST_INSIDE = 500


class Symbolic:
    """A symbolic configuration that changes with each move.

    An item is a symbol, or a block: a tuple (word, more), which stands for n + more times the word,
    for every n from first on. The lists of the items on both sides have the nearest one last.
    """

    def __init__(self, machine, state, left, first):
        self.machine = machine
        self.state = state
        self.symbol = 0
        self.left = left
        self.right = []
        self.first = first
        # The same word is crossed again and again, and crossing it may be long.
        self.crossed = {}

    def proceed(self):
        """Do one move. Return False if there is none."""
        write, move, state = self.machine[self.state][self.symbol]
        if state == STOP:
            return False
        self.state = state
        behind, ahead = (self.left, self.right) if move == 1 else (self.right, self.left)
        behind.append(write)
        while ahead and isinstance(ahead[-1], tuple):
            word, more = ahead.pop()
            changed = self._crossing(word, move)
            if changed is not None:
                behind.append((changed, more))
            elif self.first + more < 1:
                return False
            else:
                ahead.append((word, more - 1))
                ahead.extend(word[::-move])
        self.symbol = ahead.pop() if ahead else 0
        return True

    def _crossing(self, word, move):
        """Return the word after it is crossed in the direction of the move, or None if it is not."""
        key = (self.state, word, move)
        if key not in self.crossed:
            self.crossed[key] = cross_word(self.machine, self.state, word, move)
        return self.crossed[key]

    def is_at_right_end(self):
        """Return True if the head is on a blank cell, with blanks only to its right."""
        return self.symbol == 0 and not any([item != 0 for item in self.right])

    def left_cells(self, number):
        """Return the tuple of the symbols on the left side, from left to right, for an n."""
        cells = []
        for item in self.left:
            if isinstance(item, tuple):
                word, more = item
                cells.extend(word * (number + more))
            else:
                cells.append(item)
        return tuple(cells)


def cross_word(machine, state, word, move):
    """Return the word after a run on it alone in the direction of the move, or None.

    None means that the run does not leave the word at the other end in the state in which it comes in.
    """
    cells = list(word)
    index = 0 if move == 1 else len(cells) - 1
    came = state
    steps = 0
    while 0 <= index < len(cells):
        if steps == MOST_INSIDE or state == STOP:
            return None
        cells[index], turn, state = machine[state][cells[index]]
        index += turn
        steps += 1
    is_beyond = index == (len(cells) if move == 1 else -1)
    return tuple(cells) if is_beyond and state == came else None
