"""The plain meaning of targets: each of these functions gives an outcome."""

from pyhold.classes import put_attribute
from pyhold.items import put_item, unpacked
from pyhold.methods import put_item_method
from pyhold.names import bind_name
from pyhold.plain_outcomes import DONE, asked, collected, ended, settled


def stored(plain, target, value, env, fuel):
    """The outcome of storing a value into a target.

    Tuples of targets may stand deep within one another, so what is left waits in a list."""
    waiting = [(target, value)]
    while waiting:
        part, each = waiting.pop()
        if part[0] == "tuple":
            outcome = unpacked(plain.heap, each, len(part[1]))
            if outcome[0] == "raise":
                return settled(plain, outcome)
            waiting.extend(list(reversed(list(zip(part[1], outcome[1])))))
        else:
            action = TARGETS[part[0]]
            outcome = action(plain, part, each, env, fuel)
            if outcome != DONE:
                return outcome
    return DONE


def _name(plain, target, value, env, fuel):
    bind_name(plain.heap, env, target[1], value)
    return DONE


def _attr(plain, target, value, env, fuel):
    outcome = plain.evaluate(target[1], env, fuel)
    if outcome[0] != "value":
        return outcome
    return ended(settled(plain, put_attribute(plain.heap, outcome[1], target[2], value)))


def _item(plain, target, value, env, fuel):
    outcome = collected(plain, target[1:], env, fuel)
    if outcome[0] != "value":
        return outcome
    a, index = outcome[1]
    found = put_item_method(plain.heap, a, index, value)
    if found != ():
        return ended(asked(plain, found, fuel))
    return ended(settled(plain, put_item(plain.heap, a, index, value)))


TARGETS = {"name": _name, "attr": _attr, "item": _item}
