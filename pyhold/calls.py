"""Calls, and the frames that wait for what they end with."""

from pyhold.callees import (
    begun_outcome, bound_variables, host_refusal, instance_outcome, new_call_scope, not_called, wanted)
from pyhold.classes import function_member, method, new_instance
from pyhold.core import MOST_CALLS, RECURSION_ERROR, RUNTIME_ERROR, STOP_ITERATION
from pyhold.faults import fail, settle
from pyhold.gathering import meet_gather, meet_gather1
from pyhold.library import built
from pyhold.output import meet_print
from pyhold.stepping import has_stopped
from pyhold.values import NOTHING, sort_of


def call(machine, f, args, named):
    """The rule of a call that begins."""
    action = CALLS.get(sort_of(machine.heap, f))
    if action is None:
        settle(machine, not_called(machine.heap, f))
    else:
        action(machine, f, args, named)


def meet(machine, frame):
    """The rule of a frame of a call, which has been taken off: something has ended under it."""
    action = CALL_RULES[frame[0]]
    action(machine, frame)


def _function(machine, f, args, named):
    _, name, _, _, body, names, _ = machine.heap[f[1]]
    outcome = bound_variables(machine.heap, f, args, named)
    if outcome[0] == "raise":
        settle(machine, outcome)
    elif names[2]:
        scope = new_call_scope(machine.heap, f, outcome[1])
        machine.heap.append(("gen", name, "new", (("begin", body, scope),)))
        machine.control = ("value", ("ref", len(machine.heap) - 1))
    elif machine.active >= MOST_CALLS:
        fail(machine, RECURSION_ERROR, "too many calls")
    else:
        scope = new_call_scope(machine.heap, f, outcome[1])
        machine.frames.insert(0, ("body", machine.here, machine.line))
        machine.active += 1
        machine.here = name
        machine.control = ("exec", body, scope)


def _class(machine, f, args, named):
    function = function_member(machine.heap, f[1], "op_init")
    if function == ():
        settle(machine, instance_outcome(machine.heap, f[1], args, named))
    else:
        instance = new_instance(machine.heap, f[1], args)
        machine.frames.insert(0, ("init", instance))
        machine.control = ("call", function, (instance,) + args, named)


def _bound(machine, f, args, named):
    _, receiver, function = machine.heap[f[1]]
    machine.control = ("call", function, (receiver,) + args, named)


def _instance(machine, f, args, named):
    function = method(machine.heap, f, "op_call")
    if function == ():
        settle(machine, not_called(machine.heap, f))
    else:
        machine.control = ("call", function, (f,) + args, named)


def _built(machine, f, args, named):
    built(machine, f[1], args, named)


def _host(machine, f, args, named):
    outcome = host_refusal(machine.heap, f[1], args, named)
    if outcome != ():
        settle(machine, outcome)
    else:
        machine.control = ("ask", f[1], args)


def _leave_call(machine, here, line):
    """Lets the machine be in the function again in which the call began."""
    machine.here = here
    machine.line = line
    machine.active -= 1


def _met_body(machine, frame):
    _leave_call(machine, frame[1], frame[2])
    if machine.control == ("done",):
        machine.control = ("value", NOTHING)
    elif _has_returned(machine):
        machine.control = ("value", machine.control[1][1])


def _has_returned(machine):
    return machine.control[0] == "leave" and machine.control[1][0] == "return"


def _met_init(machine, frame):
    if machine.control[0] == "value":
        settle(machine, begun_outcome(frame[1], machine.control[1]))


def _met_genbody(machine, frame):
    _, g, here, line, how = frame
    _leave_call(machine, here, line)
    machine.heap[g] = ("gen", machine.heap[g][1], "over", ())
    if has_stopped(machine):
        fail(machine, RUNTIME_ERROR, "generator raised StopIteration")
    elif machine.control == ("done",) or _has_returned(machine):
        if how == "close":
            machine.control = ("value", NOTHING)
        else:
            fail(machine, STOP_ITERATION, "")


def _met_begin(machine, frame):
    if machine.control[0] == "value":
        machine.control = ("exec", frame[1], frame[2])


def _met_want(machine, frame):
    if machine.control[0] == "value":
        settle(machine, wanted(machine.heap, frame[1], machine.control[1]))


def _met_print(machine, frame):
    meet_print(machine, frame)


def _met_gather1(machine, frame):
    meet_gather1(machine, frame)


def _met_gather(machine, frame):
    meet_gather(machine, frame)


def _met_default(machine, frame):
    if has_stopped(machine):
        machine.control = ("value", frame[1])


CALLS = {
    "func": _function,
    "class": _class,
    "bound": _bound,
    "inst": _instance,
    "built": _built,
    "host": _host,
}

CALL_RULES = {
    "body": _met_body,
    "init": _met_init,
    "genbody": _met_genbody,
    "begin": _met_begin,
    "want": _met_want,
    "print": _met_print,
    "gather1": _met_gather1,
    "gather": _met_gather,
    "default": _met_default,
}
