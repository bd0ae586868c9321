"""What the rules of a machine have in common."""

from pyhold.classes import is_kind
from pyhold.core import STOP_ITERATION
from pyhold.faults import fail, is_raise


def wait_for(machine, frame, tree, env):
    """Begins an expression, with a frame that waits for its value."""
    machine.frames.insert(0, frame)
    machine.control = ("eval", tree, env)


def settle_done(machine, outcome):
    """Makes the outcome of an operation whose value is not kept the control of the machine."""
    if outcome[0] == "raise":
        fail(machine, outcome[1], outcome[2])
    else:
        machine.control = ("done",)


def has_stopped(machine):
    """Tells if the end of an iteration has come: that an instance of StopIteration was raised."""
    control = machine.control
    return is_raise(control) and is_kind(machine.heap, control[1][1], STOP_ITERATION)


def forget_value(machine):
    """Lets the method that was just asked be followed by no value, but by being done.

    Asking it has put one frame first, that which wants nothing of it."""
    machine.frames.insert(1, ("forget",))
