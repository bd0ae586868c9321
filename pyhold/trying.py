"""Try-statements and their handlers."""

from pyhold.classes import is_kind
from pyhold.core import TYPE_ERROR
from pyhold.faults import fail
from pyhold.names import bind_name
from pyhold.stepping import wait_for
from pyhold.values import object_kind


def begin_try(machine, statement, env):
    """The rule of a try-statement that begins."""
    _, _, block, handlers, last = statement
    if last:
        machine.frames.insert(0, ("final", last, env))
    if handlers:
        machine.frames.insert(0, ("catch", handlers, env))
    machine.control = ("exec", block, env)


def meet_try(machine, frame):
    """The rule of a frame of a try-statement, which has been taken off: a part of it has ended."""
    action = TRY_RULES[(machine.control[0], frame[0])]
    action(machine, frame, machine.control[-1])


def _left_block(machine, frame, signal):
    if signal[0] == "raise":
        _, handlers, env = frame
        _try_handlers(machine, signal[1], handlers, env)


def _try_handlers(machine, v, handlers, env):
    """Tries the first of some handlers for an exception."""
    if not handlers:
        machine.control = ("leave", ("raise", v))
    elif handlers[0][1] == ():
        _take_handler(machine, v, handlers[0], env)
    else:
        wait_for(machine, ("match", v, handlers, env), handlers[0][1], env)


def _matched(machine, frame, w):
    _, v, handlers, env = frame
    if object_kind(machine.heap, w) != "class":
        fail(machine, TYPE_ERROR, "not a class")
    elif is_kind(machine.heap, v, w[1]):
        _take_handler(machine, v, handlers[0], env)
    else:
        _try_handlers(machine, v, handlers[1:], env)


def _take_handler(machine, v, handler, env):
    line, _, name, block = handler
    machine.line = line
    if name != "":
        bind_name(machine.heap, env, name, v)
    machine.frames.insert(0, ("handling", v))
    machine.control = ("exec", block, env)


def _begin_last(machine, frame, came):
    """Begins the block of finally; what has ended ahead of it is kept."""
    _, last, env = frame
    signal = ()
    if machine.control[0] == "leave":
        signal = machine.control[1]
    machine.frames.insert(0, ("after", signal))
    machine.control = ("exec", last, env)


def _after_last(machine, frame, came):
    if frame[1] != ():
        machine.control = ("leave", frame[1])


TRY_RULES = {
    ("leave", "catch"): _left_block,
    ("value", "match"): _matched,
    ("done", "final"): _begin_last,
    ("leave", "final"): _begin_last,
    ("done", "after"): _after_last,
}
