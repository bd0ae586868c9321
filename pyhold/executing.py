"""Blocks: what each statement begins with, and the frames of the simple ones."""

from pyhold.classes import is_exception_class, is_kind
from pyhold.core import EXCEPTION, RUNTIME_ERROR, TYPE_ERROR
from pyhold.defining import begin_class, begin_def
from pyhold.faults import fail
from pyhold.items import drop_item
from pyhold.looping import begin_for, begin_while
from pyhold.names import unbind_name
from pyhold.own import own_drop_item
from pyhold.stepping import forget_value, settle_done, wait_for
from pyhold.trying import begin_try
from pyhold.values import truth


def execute(machine, block, env):
    """The rule of a block that begins."""
    if not block:
        machine.control = ("done",)
        return
    statement = block[0]
    machine.line = statement[1]
    if len(block) > 1:
        machine.frames.insert(0, ("rest", block[1:], env))
    action = BEGINNINGS[statement[0]]
    action(machine, statement, env)


def meet_statement(machine, frame):
    """The rule of a frame of a statement, which has been taken off: a part of it has ended."""
    action = STATEMENT_RULES[(machine.control[0], frame[0])]
    action(machine, frame, machine.control[-1])


def _do(machine, statement, env):
    wait_for(machine, ("drop",), statement[2], env)


def _set(machine, statement, env):
    _, _, target, e = statement
    wait_for(machine, ("put", target, env), e, env)


def _change(machine, statement, env):
    _, _, op, target, e = statement
    wait_for(machine, ("put", target, env), ("bin", op, target, e), env)


def _drop(machine, statement, env):
    target = statement[2]
    if target[0] == "name":
        settle_done(machine, unbind_name(machine.heap, env, target[1]))
    else:
        wait_for(machine, ("del1", target[2], env), target[1], env)


def _yield(machine, statement, env):
    _, _, target, e = statement
    wait_for(machine, ("giving", target, env), e, env)


def _pass(machine, statement, env):
    machine.control = ("done",)


def _leave(machine, statement, env):
    machine.control = ("leave", (statement[0],))


def _return(machine, statement, env):
    wait_for(machine, ("ret",), statement[2], env)


def _raise(machine, statement, env):
    if statement[2] == ():
        _raise_again(machine)
    else:
        wait_for(machine, ("throw",), statement[2], env)


def _raise_again(machine):
    for frame in machine.frames:
        if frame[0] == "handling":
            machine.control = ("leave", ("raise", frame[1]))
            return
        if frame[0] in ("body", "genbody"):
            break
    fail(machine, RUNTIME_ERROR, "nothing to raise again")


def _if(machine, statement, env):
    _, _, test, yes, no = statement
    wait_for(machine, ("if", yes, no, env), test, env)


def _while(machine, statement, env):
    begin_while(machine, statement, env)


def _for(machine, statement, env):
    begin_for(machine, statement, env)


def _def(machine, statement, env):
    begin_def(machine, statement, env)


def _class(machine, statement, env):
    begin_class(machine, statement, env)


def _try(machine, statement, env):
    begin_try(machine, statement, env)


def _met_rest(machine, frame, came):
    machine.control = ("exec", frame[1], frame[2])


def _met_drop(machine, frame, v):
    machine.control = ("done",)


def _met_put(machine, frame, v):
    _, target, env = frame
    machine.control = ("store", target, v, env)


def _met_del1(machine, frame, v):
    wait_for(machine, ("del2", v), frame[1], frame[2])


def _met_del2(machine, frame, v):
    if own_drop_item(machine, frame[1], v):
        forget_value(machine)
    else:
        settle_done(machine, drop_item(machine.heap, frame[1], v))


def _met_ret(machine, frame, v):
    machine.control = ("leave", ("return", v))


def _met_throw(machine, frame, v):
    if is_kind(machine.heap, v, EXCEPTION):
        machine.control = ("leave", ("raise", v))
    elif is_exception_class(machine.heap, v):
        machine.frames.insert(0, ("throw",))
        machine.control = ("call", v, (), ())
    else:
        fail(machine, TYPE_ERROR, "not an exception")


def _met_if(machine, frame, v):
    _, yes, no, env = frame
    if truth(machine.heap, v):
        machine.control = ("exec", yes, env)
    else:
        machine.control = ("exec", no, env)


def _met_giving(machine, frame, v):
    _, target, env = frame
    machine.frames.insert(0, ("sent", target, env))
    machine.control = ("give", v)


def _met_sent(machine, frame, v):
    _, target, env = frame
    if target == ():
        machine.control = ("done",)
    else:
        machine.control = ("store", target, v, env)


BEGINNINGS = {
    "do": _do,
    "set": _set,
    "change": _change,
    "drop": _drop,
    "yield": _yield,
    "pass": _pass,
    "global": _pass,
    "nonlocal": _pass,
    "break": _leave,
    "continue": _leave,
    "return": _return,
    "raise": _raise,
    "if": _if,
    "while": _while,
    "for": _for,
    "def": _def,
    "class": _class,
    "try": _try,
}

STATEMENT_RULES = {
    ("done", "rest"): _met_rest,
    ("value", "drop"): _met_drop,
    ("value", "put"): _met_put,
    ("value", "del1"): _met_del1,
    ("value", "del2"): _met_del2,
    ("value", "ret"): _met_ret,
    ("value", "throw"): _met_throw,
    ("value", "if"): _met_if,
    ("value", "giving"): _met_giving,
    ("value", "sent"): _met_sent,
}
