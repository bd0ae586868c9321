"""Expressions: what each begins with, and what its frames do when a value has come."""

from pyhold.arithmetic import binary, negated
from pyhold.classes import attribute
from pyhold.comparing import compare
from pyhold.faults import settle
from pyhold.items import item, part, with_entry
from pyhold.names import look_up
from pyhold.own import own_binary, own_compare, own_item, own_minus
from pyhold.stepping import wait_for
from pyhold.values import made_row, truth


def evaluate(machine, tree, env):
    """The rule of an expression that begins."""
    action = BEGINNINGS[tree[0]]
    action(machine, tree, env)


def meet_part(machine, frame):
    """The rule of a frame of an expression, which has been taken off: a value has come."""
    action = PART_RULES[frame[0]]
    action(machine, frame, machine.control[1])


def _const(machine, tree, env):
    machine.control = ("value", tree[1])


def _name(machine, tree, env):
    settle(machine, look_up(machine.heap, env, tree[1]))


def _neg(machine, tree, env):
    wait_for(machine, ("neg",), tree[1], env)


def _not(machine, tree, env):
    wait_for(machine, ("not",), tree[1], env)


def _bin(machine, tree, env):
    _, op, a, b = tree
    wait_for(machine, ("bin1", op, b, env), a, env)


def _and(machine, tree, env):
    wait_for(machine, ("and", tree[2], env), tree[1], env)


def _or(machine, tree, env):
    wait_for(machine, ("or", tree[2], env), tree[1], env)


def _choice(machine, tree, env):
    _, test, yes, no = tree
    wait_for(machine, ("choice", yes, no, env), test, env)


def _compare(machine, tree, env):
    wait_for(machine, ("cmp1", tree[2], env), tree[1], env)


def _call(machine, tree, env):
    _, f, args, named = tree
    wait_for(machine, ("call1", args, named, env), f, env)


def _attr(machine, tree, env):
    wait_for(machine, ("attr", tree[2]), tree[1], env)


def _item(machine, tree, env):
    wait_for(machine, ("item1", tree[2], env), tree[1], env)


def _part(machine, tree, env):
    _, e, low, high = tree
    wait_for(machine, ("part1", low, high, env), e, env)


def _row(machine, tree, env):
    _next_item(machine, tree[0], (), tree[1], env)


def _dict(machine, tree, env):
    _next_key(machine, (), tree[1], env)


def _next_item(machine, kind, done, rest, env):
    """Begins the next item of a tuple or list, or makes it."""
    if rest:
        wait_for(machine, ("items", kind, done, rest[1:], env), rest[0], env)
    else:
        settle(machine, made_row(machine.heap, kind, done))


def _next_key(machine, done, rest, env):
    """Begins the next pair of a dict, or makes it."""
    if rest:
        key, worth = rest[0]
        wait_for(machine, ("dict1", done, worth, rest[1:], env), key, env)
    else:
        settle(machine, made_row(machine.heap, "dict", done))


def _next_argument(machine, f, done, rest, named, later, env):
    """Begins the next argument of a call, or the call."""
    frame = ("args", f, done, rest, named, later, env)
    if rest:
        wait_for(machine, frame, rest[0], env)
    elif later:
        wait_for(machine, frame, later[0][1], env)
    else:
        machine.control = ("call", f, done, named)


def _next_comparison(machine, value, pairs, env):
    """Begins the other side of the first of the comparisons that are left."""
    op, e = pairs[0]
    wait_for(machine, ("cmp2", value, op, pairs[1:], env), e, env)


def _met_neg(machine, frame, v):
    if not own_minus(machine, v):
        settle(machine, negated(machine.heap, v))


def _met_not(machine, frame, v):
    machine.control = ("value", ("bool", not truth(machine.heap, v)))


def _met_bin1(machine, frame, v):
    _, op, b, env = frame
    wait_for(machine, ("bin2", op, v), b, env)


def _met_bin2(machine, frame, v):
    _, op, u = frame
    if not own_binary(machine, op, u, v):
        settle(machine, binary(machine.heap, op, u, v))


def _met_and(machine, frame, v):
    # A value that decides is the control already.
    if truth(machine.heap, v):
        machine.control = ("eval", frame[1], frame[2])


def _met_or(machine, frame, v):
    if not truth(machine.heap, v):
        machine.control = ("eval", frame[1], frame[2])


def _met_choice(machine, frame, v):
    _, yes, no, env = frame
    if truth(machine.heap, v):
        machine.control = ("eval", yes, env)
    else:
        machine.control = ("eval", no, env)


def _met_cmp1(machine, frame, v):
    _next_comparison(machine, v, frame[1], frame[2])


def _met_cmp2(machine, frame, v):
    _, u, op, rest, env = frame
    if rest:
        machine.frames.insert(0, ("cmp3", v, rest, env))
    if not own_compare(machine, op, u, v):
        settle(machine, compare(machine.heap, op, u, v))


def _met_cmp3(machine, frame, v):
    _, w, rest, env = frame
    if truth(machine.heap, v):
        _next_comparison(machine, w, rest, env)


def _met_attr(machine, frame, v):
    settle(machine, attribute(machine.heap, v, frame[1]))


def _met_item1(machine, frame, v):
    wait_for(machine, ("item2", v), frame[1], frame[2])


def _met_item2(machine, frame, v):
    if not own_item(machine, frame[1], v):
        settle(machine, item(machine.heap, frame[1], v))


def _met_part1(machine, frame, v):
    _, low, high, env = frame
    wait_for(machine, ("part2", v, high, env), low, env)


def _met_part2(machine, frame, v):
    _, u, high, env = frame
    wait_for(machine, ("part3", u, v), high, env)


def _met_part3(machine, frame, v):
    settle(machine, part(machine.heap, frame[1], frame[2], v))


def _met_items(machine, frame, v):
    _, kind, done, rest, env = frame
    _next_item(machine, kind, done + (v,), rest, env)


def _met_dict1(machine, frame, v):
    _, done, worth, rest, env = frame
    wait_for(machine, ("dict2", done, v, rest, env), worth, env)


def _met_dict2(machine, frame, v):
    _, done, key, rest, env = frame
    outcome = with_entry(machine.heap, done, key, v)
    if outcome[0] == "raise":
        settle(machine, outcome)
    else:
        _next_key(machine, outcome[1], rest, env)


def _met_call1(machine, frame, v):
    _, args, named, env = frame
    _next_argument(machine, v, (), args, (), named, env)


def _met_args(machine, frame, v):
    _, f, done, rest, named, later, env = frame
    if rest:
        _next_argument(machine, f, done + (v,), rest[1:], named, later, env)
    else:
        _next_argument(machine, f, done, (), named + ((later[0][0], v),), later[1:], env)


BEGINNINGS = {
    "const": _const,
    "name": _name,
    "neg": _neg,
    "not": _not,
    "bin": _bin,
    "and": _and,
    "or": _or,
    "compare": _compare,
    "choice": _choice,
    "call": _call,
    "attr": _attr,
    "item": _item,
    "part": _part,
    "tuple": _row,
    "list": _row,
    "dict": _dict,
}

PART_RULES = {
    "neg": _met_neg,
    "not": _met_not,
    "bin1": _met_bin1,
    "bin2": _met_bin2,
    "and": _met_and,
    "or": _met_or,
    "choice": _met_choice,
    "cmp1": _met_cmp1,
    "cmp2": _met_cmp2,
    "cmp3": _met_cmp3,
    "attr": _met_attr,
    "item1": _met_item1,
    "item2": _met_item2,
    "part1": _met_part1,
    "part2": _met_part2,
    "part3": _met_part3,
    "items": _met_items,
    "dict1": _met_dict1,
    "dict2": _met_dict2,
    "call1": _met_call1,
    "args": _met_args,
}
