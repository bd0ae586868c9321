"""Lists and tuples of what an iterator, a generator or an instance gives."""

from pyhold.core import MOST_ENTRIES
from pyhold.faults import settle
from pyhold.generators import advance, iterate
from pyhold.stepping import has_stopped
from pyhold.values import TOO_LARGE, made_row


def begin_gather(machine, kind, value):
    """Begins a list or tuple of what a value gives."""
    machine.frames.insert(0, ("gather1", kind))
    iterate(machine, value)


def meet_gather1(machine, frame):
    """The rule of a frame gather1: the iterator has come."""
    if machine.control[0] == "value":
        _ask(machine, frame[1], machine.control[1], ())


def meet_gather(machine, frame):
    """The rule of a frame gather: an element has come, or there is none."""
    _, kind, it, got = frame
    control = machine.control
    if control[0] == "value" and len(got) == MOST_ENTRIES:
        settle(machine, TOO_LARGE)
    elif control[0] == "value":
        _ask(machine, kind, it, got + (control[1],))
    elif has_stopped(machine):
        settle(machine, made_row(machine.heap, kind, got))


def _ask(machine, kind, it, got):
    machine.frames.insert(0, ("gather", kind, it, got))
    advance(machine, it)
