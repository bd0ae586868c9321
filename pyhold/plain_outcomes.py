"""What the parts of the plain meaning have in common."""

from pyhold.callees import wanted
from pyhold.faults import new_fault

DEEP = ("deep",)
LONG = ("long",)
DONE = ("done",)


def may_begin(plain):
    """Tells if one more statement, call or round may begin, and counts it."""
    if plain.left <= 0:
        return False
    plain.left -= 1
    return True


def settled(plain, outcome):
    """What the outcome of an operation means: its value, or the exception that it raises."""
    if outcome[0] == "raise":
        return ("raise", new_fault(plain.heap, outcome[1], outcome[2]))
    return ("value", outcome[1])


def ended(outcome):
    """The same outcome, but done instead of a value."""
    if outcome[0] == "value":
        return DONE
    return outcome


def asked(plain, found, fuel):
    """The outcome of a method of a program's own that was found for an operation."""
    function, args, what = found
    outcome = plain.apply(function, args, (), fuel)
    if outcome[0] != "value" or what == "":
        return outcome
    return settled(plain, wanted(plain.heap, what, outcome[1]))


def collected(plain, trees, env, fuel):
    """The outcome whose value is the tuple of the values of some expressions."""
    values = []
    for tree in trees:
        outcome = plain.evaluate(tree, env, fuel)
        if outcome[0] != "value":
            return outcome
        values.append(outcome[1])
    return ("value", tuple(values))
