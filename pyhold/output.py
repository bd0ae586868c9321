"""The output of a run."""

from pyhold.faults import settle
from pyhold.own import own_text
from pyhold.showing import words
from pyhold.telling import longer_line, longer_output
from pyhold.values import DONE


def print_values(machine, told, values):
    """Prints values behind the text of those ahead of them, or asks for a text."""
    for at, value in enumerate(values):
        rest = values[at + 1:]
        if own_text(machine, value, True):
            # The call that was begun gives its text to the frame want above this one.
            machine.frames.insert(1, ("print", ("text", told), rest))
            return
        outcome = longer_line(told, words(machine.heap, value), rest != ())
        if outcome[0] == "raise":
            settle(machine, outcome)
            return
        told = outcome[1]
    _put_out(machine, told)


def meet_print(machine, frame):
    """The rule of a frame print, when something has ended under it."""
    _, told, rest = frame
    if machine.control[0] != "value":
        return
    outcome = longer_line(told[1], ("ok", machine.control[1]), rest != ())
    if outcome[0] == "raise":
        settle(machine, outcome)
    else:
        print_values(machine, outcome[1], rest)


def _put_out(machine, line):
    outcome = longer_output(machine.out, line)
    if outcome[0] == "raise":
        settle(machine, outcome)
    else:
        machine.out = outcome[1]
        settle(machine, DONE)
