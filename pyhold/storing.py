"""Storing values into targets."""

from pyhold.classes import put_attribute
from pyhold.faults import settle
from pyhold.items import put_item, unpacked
from pyhold.names import bind_name
from pyhold.own import own_put_item
from pyhold.stepping import forget_value, settle_done, wait_for


def store(machine, target, value, env):
    """The rule of a value that is to be stored."""
    action = TARGETS[target[0]]
    action(machine, target, value, env)


def meet_store(machine, frame):
    """The rule of a frame of a store, which has been taken off: a part of it has ended."""
    action = STORE_RULES[(machine.control[0], frame[0])]
    action(machine, frame, machine.control[-1])


def _name(machine, target, value, env):
    bind_name(machine.heap, env, target[1], value)
    machine.control = ("done",)


def _attr(machine, target, value, env):
    wait_for(machine, ("setattr", target[2], value), target[1], env)


def _item(machine, target, value, env):
    _, e, index = target
    wait_for(machine, ("seti1", index, value, env), e, env)


def _tuple(machine, target, value, env):
    targets = target[1]
    outcome = unpacked(machine.heap, value, len(targets))
    if outcome[0] == "raise":
        settle(machine, outcome)
    else:
        _store_next(machine, targets, outcome[1], env)


def _store_next(machine, targets, values, env):
    """Begins to store the first of some values, with a frame that keeps the others."""
    if targets:
        machine.frames.insert(0, ("unpack", targets[1:], values[1:], env))
        machine.control = ("store", targets[0], values[0], env)
    else:
        machine.control = ("done",)


def _met_setattr(machine, frame, u):
    _, x, value = frame
    settle_done(machine, put_attribute(machine.heap, u, x, value))


def _met_seti1(machine, frame, u):
    _, index, value, env = frame
    wait_for(machine, ("seti2", u, value), index, env)


def _met_seti2(machine, frame, w):
    _, u, value = frame
    if own_put_item(machine, u, w, value):
        forget_value(machine)
    else:
        settle_done(machine, put_item(machine.heap, u, w, value))


def _met_unpack(machine, frame, came):
    _, targets, values, env = frame
    _store_next(machine, targets, values, env)


def _met_forget(machine, frame, v):
    machine.control = ("done",)


TARGETS = {"name": _name, "attr": _attr, "item": _item, "tuple": _tuple}

STORE_RULES = {
    ("value", "setattr"): _met_setattr,
    ("value", "seti1"): _met_seti1,
    ("value", "seti2"): _met_seti2,
    ("done", "unpack"): _met_unpack,
    ("value", "forget"): _met_forget,
}
