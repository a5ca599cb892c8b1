"""Counts of machines by what their evidence shows."""

from tacet.deciding import decide
from tacet.evidence import shows
from tacet.machines import text
from tacet.normal import tree
from tacet.tapes import BLANK, ones, run


def count_all(machines, evidences):
    """Return the counts of the machines and of what their evidence shows, and who runs longest and writes most.

    These are eight: the numbers of the machines, of those that stop, of those that never do, and of the others; the
    greatest numbers of steps and of cells that are not blank of those that stop; and the texts of the first machines
    with these.
    """
    shown = [
        "" if evidence is None else shows(machine, evidence) for machine, evidence in zip(machines, evidences)
    ]
    stopped = [
        (evidence[1], _ones_at(machine, evidence[1]), text(machine))
        for machine, evidence, word in zip(machines, evidences, shown) if word == "stops"
    ]
    counts = (len(shown), len(stopped), shown.count("runs"), shown.count(""))
    if not stopped:
        return counts + (0, 0, "", "")
    # Of several with the greatest number, max gives the first one.
    longest = max(stopped, key=lambda one: one[0])
    fullest = max(stopped, key=lambda one: one[1])
    return counts + (longest[0], fullest[1], longest[2], fullest[2])


def _ones_at(machine, steps):
    after, _ = run(machine, BLANK, steps)
    return ones(after)


def tree_census(states, symbols, count, most):
    """Return the counts of the machines of the tree for count, with the evidence that decide finds."""
    machines = tree(states, symbols, count, most)
    return count_all(machines, [decide(machine) for machine in machines])
