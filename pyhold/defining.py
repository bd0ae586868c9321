"""The statements def and class."""

from pyhold.classes import base_refusal
from pyhold.core import TYPE_ERROR
from pyhold.faults import fail
from pyhold.making import new_class, new_class_scope, new_function
from pyhold.stepping import wait_for


def begin_def(machine, statement, env):
    """The rule of a def that begins."""
    _, _, x, params, block, names = statement
    rest = tuple([pair for pair in params if pair[1] != ()])
    _next_default(machine, (x, params, block, names), (), rest, env)


def begin_class(machine, statement, env):
    """The rule of a class-statement that begins."""
    _, _, x, base, block, names = statement
    if base == ():
        _open_class(machine, x, -1, block, names, env)
    else:
        wait_for(machine, ("class1", x, block, names, env), base, env)


def meet_definition(machine, frame):
    """The rule of a frame of a def or a class, which has been taken off: a part of it has ended."""
    action = DEFINITION_RULES[(machine.control[0], frame[0])]
    action(machine, frame, machine.control[-1])


def _next_default(machine, told, done, rest, env):
    """Begins the next default of a def, or makes the function and stores it."""
    x, params, block, names = told
    if rest:
        wait_for(machine, ("def", x, params, block, names, done, rest, env), rest[0][1], env)
    else:
        made = new_function(machine.heap, x, params, done, block, names, env)
        machine.control = ("store", ("name", x), made, env)


def _met_def(machine, frame, v):
    _, x, params, block, names, done, rest, env = frame
    _next_default(machine, (x, params, block, names), done + ((rest[0][0], v),), rest[1:], env)


def _met_class1(machine, frame, v):
    _, x, block, names, env = frame
    words = base_refusal(machine.heap, v)
    if words != "":
        fail(machine, TYPE_ERROR, words)
    else:
        _open_class(machine, x, v[1], block, names, env)


def _open_class(machine, x, base, block, names, env):
    """Begins the block of a class."""
    scope = new_class_scope(machine.heap, names, env)
    machine.frames.insert(0, ("class2", x, base, scope, env))
    machine.control = ("exec", block, scope)


def _met_class2(machine, frame, came):
    _, x, base, scope, env = frame
    made = new_class(machine.heap, x, base, scope)
    machine.control = ("store", ("name", x), made, env)


DEFINITION_RULES = {
    ("value", "def"): _met_def,
    ("value", "class1"): _met_class1,
    ("done", "class2"): _met_class2,
}
