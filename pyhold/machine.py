"""Machines: what a run is made of, and how it makes steps."""

from pyhold.calls import CALL_RULES, call, meet
from pyhold.core import start_heap
from pyhold.defining import DEFINITION_RULES, meet_definition
from pyhold.evaluating import PART_RULES, evaluate, meet_part
from pyhold.executing import STATEMENT_RULES, execute, meet_statement
from pyhold.faults import is_raise
from pyhold.generators import give, resume
from pyhold.looping import LOOP_RULES, meet_loop
from pyhold.storing import STORE_RULES, meet_store, store
from pyhold.trying import TRY_RULES, meet_try


class Machine:
    """What a run does next, and all that it has."""

    def __init__(self, control, frames, heap, out, active, here, line, steps):
        self.control = control
        self.frames = frames
        self.heap = heap
        self.out = out
        self.active = active
        self.here = here
        self.line = line
        self.steps = steps


def start(code, hosts):
    """A machine that has made no step of a program."""
    return Machine(("exec", code, 0), [], start_heap(hosts), "", 0, "module", 1, 0)


def at_rest(machine):
    """Tells if a machine can make no step."""
    if machine.control[0] == "ask":
        return True
    if machine.frames:
        return False
    return machine.control == ("done",) or is_raise(machine.control)


def step(machine):
    """Makes one step, and tells if the machine was not at rest."""
    if at_rest(machine):
        return False
    machine.steps += 1
    if machine.control[0] in BEGINNINGS:
        action = BEGINNINGS[machine.control[0]]
        action(machine, machine.control)
    else:
        _meet(machine)
    return True


def _meet(machine):
    """Takes the first frame off, and follows its rule for what has come. What has no rule goes on."""
    frame = machine.frames[0]
    del machine.frames[0]
    came = (machine.control[0], frame[0])
    if frame[0] in CALL_RULES:
        meet(machine, frame)
    elif frame[0] in PART_RULES:
        if came[0] == "value":
            meet_part(machine, frame)
    elif came in STATEMENT_RULES:
        meet_statement(machine, frame)
    elif came in STORE_RULES:
        meet_store(machine, frame)
    elif came in LOOP_RULES:
        meet_loop(machine, frame)
    elif came in TRY_RULES:
        meet_try(machine, frame)
    elif came in DEFINITION_RULES:
        meet_definition(machine, frame)


def _eval(machine, control):
    evaluate(machine, control[1], control[2])


def _exec(machine, control):
    execute(machine, control[1], control[2])


def _store(machine, control):
    store(machine, control[1], control[2], control[3])


def _call(machine, control):
    call(machine, control[1], control[2], control[3])


def _resume(machine, control):
    resume(machine, control[1], control[2], control[3])


def _give(machine, control):
    give(machine, control[1])


BEGINNINGS = {
    "eval": _eval,
    "exec": _exec,
    "store": _store,
    "call": _call,
    "resume": _resume,
    "give": _give,
}
