"""Loops."""

from pyhold.generators import advance, iterate
from pyhold.stepping import has_stopped, wait_for
from pyhold.values import truth


def begin_while(machine, statement, env):
    """The rule of a while-statement that begins."""
    _, line, test, block = statement
    wait_for(machine, ("while1", test, block, env, line), test, env)


def begin_for(machine, statement, env):
    """The rule of a for-statement that begins."""
    _, line, target, e, block = statement
    wait_for(machine, ("for1", target, block, env, line), e, env)


def meet_loop(machine, frame):
    """The rule of a frame of a loop, which has been taken off: a part of it has ended."""
    action = LOOP_RULES[(machine.control[0], frame[0])]
    action(machine, frame, machine.control[-1])


def _tested(machine, frame, v):
    _, test, block, env, line = frame
    if truth(machine.heap, v):
        machine.frames.insert(0, ("while2", test, block, env, line))
        machine.control = ("exec", block, env)
    else:
        machine.control = ("done",)


def _test_again(machine, frame, came):
    _, test, block, env, line = frame
    machine.line = line
    wait_for(machine, ("while1", test, block, env, line), test, env)


def _left_while(machine, frame, signal):
    if signal[0] == "continue":
        _test_again(machine, frame, signal)
    elif signal[0] == "break":
        machine.control = ("done",)


def _iterated(machine, frame, v):
    machine.frames.insert(0, ("for2",) + frame[1:])
    iterate(machine, v)


def _advance(machine, it, fields):
    """Asks the iterator of a loop for its next element."""
    machine.frames.insert(0, ("for3", it) + fields)
    advance(machine, it)


def _has_iterator(machine, frame, v):
    _advance(machine, v, frame[1:])


def _has_element(machine, frame, v):
    _, it, target, block, env, line = frame
    machine.frames.insert(0, ("for4", it, target, block, env, line))
    machine.control = ("store", target, v, env)


def _left_iterator(machine, frame, signal):
    if has_stopped(machine):
        machine.control = ("done",)


def _stored(machine, frame, came):
    _, it, target, block, env, line = frame
    machine.frames.insert(0, ("for5", it, target, block, env, line))
    machine.control = ("exec", block, env)


def _next_round(machine, frame, came):
    machine.line = frame[5]
    _advance(machine, frame[1], frame[2:])


def _left_for(machine, frame, signal):
    if signal[0] == "continue":
        _next_round(machine, frame, signal)
    elif signal[0] == "break":
        machine.control = ("done",)


LOOP_RULES = {
    ("value", "while1"): _tested,
    ("done", "while2"): _test_again,
    ("leave", "while2"): _left_while,
    ("value", "for1"): _iterated,
    ("value", "for2"): _has_iterator,
    ("value", "for3"): _has_element,
    ("leave", "for3"): _left_iterator,
    ("done", "for4"): _stored,
    ("done", "for5"): _next_round,
    ("leave", "for5"): _left_for,
}
