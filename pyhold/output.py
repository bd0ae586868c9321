"""The output of a run."""

from pyhold.core import MOST_ENTRIES, MOST_OUTPUT
from pyhold.faults import settle
from pyhold.own import own_text
from pyhold.showing import words
from pyhold.values import DONE, TOO_LARGE


def print_values(machine, told, values):
    """Prints values behind the text of those ahead of them, or asks for a text."""
    for at, value in enumerate(values):
        rest = values[at + 1:]
        if own_text(machine, value, True):
            # The call that was begun gives its text to the frame want above this one.
            machine.frames.insert(1, ("print", ("text", told), rest))
            return
        outcome = _longer(told, words(machine.heap, value), rest)
        if outcome[0] == "raise":
            settle(machine, outcome)
            return
        told = outcome[1]
    settle(machine, _put_out(machine, told + "\n"))


def meet_print(machine, frame):
    """The rule of a frame print, when something has ended under it."""
    _, told, rest = frame
    if machine.control[0] != "value":
        return
    outcome = _longer(told[1], ("ok", machine.control[1]), rest)
    if outcome[0] == "raise":
        settle(machine, outcome)
    else:
        print_values(machine, outcome[1], rest)


def _longer(told, outcome, rest):
    """The outcome that is the line with one more text, if that is the outcome of showing it."""
    if outcome[0] == "raise":
        return outcome
    line = told + outcome[1][1]
    if rest:
        line += " "
    if len(line) > MOST_ENTRIES:
        return TOO_LARGE
    return ("ok", line)


def _put_out(machine, line):
    if len(machine.out) + len(line) > MOST_OUTPUT:
        return TOO_LARGE
    machine.out = machine.out + line
    return DONE
