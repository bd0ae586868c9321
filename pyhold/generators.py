"""Iterators and generators."""

from pyhold.classes import method
from pyhold.core import (
    MOST_CALLS, RECURSION_ERROR, RUNTIME_ERROR, STOP_ITERATION, TYPE_ERROR, VALUE_ERROR)
from pyhold.faults import fail, settle
from pyhold.iterators import new_iterator, next_element
from pyhold.own import own_iter
from pyhold.values import NOTHING, kind_name, object_kind


def resume(machine, g, how, value):
    """Lets a generator go on, by how: next, send or close."""
    _, name, state, frames = machine.heap[g]
    if state == "running":
        fail(machine, VALUE_ERROR, "generator is running")
    elif how == "close" and state in ("new", "over"):
        machine.heap[g] = ("gen", name, "over", ())
        machine.control = ("value", NOTHING)
    elif state == "over":
        fail(machine, STOP_ITERATION, "")
    elif state == "new" and how == "send" and value != NOTHING:
        fail(machine, TYPE_ERROR, "generator has not begun")
    elif machine.active >= MOST_CALLS:
        fail(machine, RECURSION_ERROR, "too many calls")
    else:
        machine.frames[:0] = list(frames) + [("genbody", g, machine.here, machine.line, how)]
        machine.heap[g] = ("gen", name, "running", ())
        machine.active += 1
        machine.here = name
        machine.control = _first_control(how, value)


def give(machine, value):
    """Pauses the innermost generator that is running: what resumed it has the value."""
    at = 0
    while machine.frames[at][0] != "genbody":
        at += 1
    _, g, here, line, how = machine.frames[at]
    kept = tuple(machine.frames[:at])
    del machine.frames[:at + 1]
    machine.here = here
    machine.line = line
    machine.active -= 1
    name = machine.heap[g][1]
    if how == "close":
        machine.heap[g] = ("gen", name, "over", ())
        fail(machine, RUNTIME_ERROR, "generator went on after close")
    else:
        machine.heap[g] = ("gen", name, "paused", kept)
        machine.control = ("value", value)


def iterate(machine, value):
    """Begins iter(value)."""
    made = new_iterator(machine.heap, value)
    if made != ():
        machine.control = ("value", made)
    elif object_kind(machine.heap, value) in ("iter", "gen"):
        machine.control = ("value", value)
    elif not own_iter(machine, value):
        if method(machine.heap, value, "op_next") == ():
            fail(machine, TYPE_ERROR, kind_name(machine.heap, value) + " cannot be iterated")
        else:
            machine.control = ("value", value)


def advance(machine, it):
    """Begins to fetch the next element of an iterator, a generator or an instance."""
    kind = object_kind(machine.heap, it)
    function = method(machine.heap, it, "op_next")
    if kind == "iter":
        settle(machine, next_element(machine.heap, it[1]))
    elif kind == "gen":
        machine.control = ("resume", it[1], "next", NOTHING)
    elif function != ():
        machine.control = ("call", function, (it,), ())
    else:
        fail(machine, TYPE_ERROR, kind_name(machine.heap, it) + " is no iterator")


def _first_control(how, value):
    if how == "close":
        return ("leave", ("return", NOTHING))
    if how == "send":
        return ("value", value)
    return ("value", NOTHING)
