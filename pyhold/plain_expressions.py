"""The plain meaning of expressions: each of these functions gives an outcome."""

from pyhold.arithmetic import binary, negated
from pyhold.classes import attribute
from pyhold.comparing import compare
from pyhold.items import item, part, with_entry
from pyhold.methods import binary_method, compare_method, item_method, minus_method
from pyhold.names import look_up
from pyhold.plain_outcomes import asked, collected, settled
from pyhold.values import made_row, truth


def _const(plain, e, env, fuel):
    return ("value", e[1])


def _name(plain, e, env, fuel):
    return settled(plain, look_up(plain.heap, env, e[1]))


def _neg(plain, e, env, fuel):
    outcome = plain.evaluate(e[1], env, fuel)
    if outcome[0] != "value":
        return outcome
    found = minus_method(plain.heap, outcome[1])
    if found != ():
        return asked(plain, found, fuel)
    return settled(plain, negated(plain.heap, outcome[1]))


def _not(plain, e, env, fuel):
    outcome = plain.evaluate(e[1], env, fuel)
    if outcome[0] != "value":
        return outcome
    return ("value", ("bool", not truth(plain.heap, outcome[1])))


def _bin(plain, e, env, fuel):
    outcome = collected(plain, e[2:], env, fuel)
    if outcome[0] != "value":
        return outcome
    a, b = outcome[1]
    found = binary_method(plain.heap, e[1], a, b)
    if found != ():
        return asked(plain, found, fuel)
    return settled(plain, binary(plain.heap, e[1], a, b))


def _and(plain, e, env, fuel):
    outcome = plain.evaluate(e[1], env, fuel)
    if outcome[0] == "value" and truth(plain.heap, outcome[1]):
        return plain.evaluate(e[2], env, fuel)
    return outcome


def _or(plain, e, env, fuel):
    outcome = plain.evaluate(e[1], env, fuel)
    if outcome[0] == "value" and not truth(plain.heap, outcome[1]):
        return plain.evaluate(e[2], env, fuel)
    return outcome


def _choice(plain, e, env, fuel):
    _, test, yes, no = e
    outcome = plain.evaluate(test, env, fuel)
    if outcome[0] != "value":
        return outcome
    if truth(plain.heap, outcome[1]):
        return plain.evaluate(yes, env, fuel)
    return plain.evaluate(no, env, fuel)


def _compare(plain, e, env, fuel):
    outcome = plain.evaluate(e[1], env, fuel)
    if outcome[0] != "value":
        return outcome
    one = outcome[1]
    for op, tree in e[2]:
        outcome = plain.evaluate(tree, env, fuel)
        if outcome[0] != "value":
            return outcome
        other = outcome[1]
        outcome = _compared(plain, op, one, other, fuel)
        if outcome[0] != "value" or not truth(plain.heap, outcome[1]):
            return outcome
        one = other
    return outcome


def _compared(plain, op, one, other, fuel):
    found = compare_method(plain.heap, op, one, other)
    if found != ():
        return asked(plain, found, fuel)
    return settled(plain, compare(plain.heap, op, one, other))


def _call(plain, e, env, fuel):
    _, f, args, named = e
    outcome = collected(plain, (f,) + args + tuple([tree for _, tree in named]), env, fuel)
    if outcome[0] != "value":
        return outcome
    values = outcome[1]
    behind = len(args) + 1
    pairs = tuple([(pair[0], value) for pair, value in zip(named, values[behind:])])
    return plain.apply(values[0], values[1:behind], pairs, fuel)


def _attr(plain, e, env, fuel):
    outcome = plain.evaluate(e[1], env, fuel)
    if outcome[0] != "value":
        return outcome
    return settled(plain, attribute(plain.heap, outcome[1], e[2]))


def _item(plain, e, env, fuel):
    outcome = collected(plain, e[1:], env, fuel)
    if outcome[0] != "value":
        return outcome
    a, index = outcome[1]
    found = item_method(plain.heap, a, index)
    if found != ():
        return asked(plain, found, fuel)
    return settled(plain, item(plain.heap, a, index))


def _part(plain, e, env, fuel):
    outcome = collected(plain, e[1:], env, fuel)
    if outcome[0] != "value":
        return outcome
    a, low, high = outcome[1]
    return settled(plain, part(plain.heap, a, low, high))


def _row(plain, e, env, fuel):
    outcome = collected(plain, e[1], env, fuel)
    if outcome[0] != "value":
        return outcome
    return settled(plain, made_row(plain.heap, e[0], outcome[1]))


def _dict(plain, e, env, fuel):
    entries = ()
    for pair in e[1]:
        outcome = collected(plain, pair, env, fuel)
        if outcome[0] != "value":
            return outcome
        key, worth = outcome[1]
        outcome = with_entry(plain.heap, entries, key, worth)
        if outcome[0] == "raise":
            return settled(plain, outcome)
        entries = outcome[1]
    return settled(plain, made_row(plain.heap, "dict", entries))


EXPRESSIONS = {
    "const": _const,
    "name": _name,
    "neg": _neg,
    "not": _not,
    "bin": _bin,
    "and": _and,
    "or": _or,
    "choice": _choice,
    "compare": _compare,
    "call": _call,
    "attr": _attr,
    "item": _item,
    "part": _part,
    "tuple": _row,
    "list": _row,
    "dict": _dict,
}
