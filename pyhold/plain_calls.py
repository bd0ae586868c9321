"""The plain meaning of calls: each of these functions gives an outcome."""

from pyhold.callees import (
    begun_outcome, bound_variables, host_refusal, instance_outcome, new_call_scope, not_called)
from pyhold.classes import function_member, method, new_instance
from pyhold.core import HOST_ERROR, MOST_CALLS, RECURSION_ERROR, STOP_ITERATION
from pyhold.library import plain_built
from pyhold.methods import length_method, text_method
from pyhold.plain_iterating import advanced, gathered, has_ended, iterated
from pyhold.plain_outcomes import asked, settled
from pyhold.showing import words
from pyhold.signatures import call_refusal
from pyhold.telling import longer_line, longer_output
from pyhold.values import NOTHING, sort_of


def applied(plain, f, args, named, fuel):
    """The outcome of a call; what it calls has so much fuel."""
    action = CALLS.get(sort_of(plain.heap, f))
    if action is None:
        return settled(plain, not_called(plain.heap, f))
    return action(plain, f, args, named, fuel)


def _function(plain, f, args, named, fuel):
    _, name, _, _, body, names, _ = plain.heap[f[1]]
    outcome = bound_variables(plain.heap, f, args, named)
    if outcome[0] == "raise":
        return settled(plain, outcome)
    if names[2]:
        # What generators do is no part of the plain meaning: here they have no elements.
        plain.heap.append(("gen", name, "over", ()))
        return ("value", ("ref", len(plain.heap) - 1))
    if plain.active >= MOST_CALLS:
        return settled(plain, ("raise", RECURSION_ERROR, "too many calls"))
    scope = new_call_scope(plain.heap, f, outcome[1])
    handling = plain.handling
    plain.handling = []
    plain.active += 1
    outcome = plain.execute(body, scope, fuel)
    plain.active -= 1
    plain.handling = handling
    if outcome == ("done",):
        return ("value", NOTHING)
    if outcome[0] == "return":
        return ("value", outcome[1])
    return outcome


def _class(plain, f, args, named, fuel):
    function = function_member(plain.heap, f[1], "op_init")
    if function == ():
        return settled(plain, instance_outcome(plain.heap, f[1], args, named))
    instance = new_instance(plain.heap, f[1], args)
    outcome = plain.apply(function, (instance,) + args, named, fuel)
    if outcome[0] != "value":
        return outcome
    return settled(plain, begun_outcome(instance, outcome[1]))


def _bound(plain, f, args, named, fuel):
    _, receiver, function = plain.heap[f[1]]
    return plain.apply(function, (receiver,) + args, named, fuel)


def _instance(plain, f, args, named, fuel):
    function = method(plain.heap, f, "op_call")
    if function == ():
        return settled(plain, not_called(plain.heap, f))
    return plain.apply(function, (f,) + args, named, fuel)


def _host(plain, f, args, named, fuel):
    outcome = host_refusal(plain.heap, f[1], args, named)
    if outcome != ():
        return settled(plain, outcome)
    if plain.used == len(plain.replies):
        return ("ask", f[1], args)
    reply = plain.replies[plain.used]
    plain.used += 1
    if reply[0] == "raise":
        return settled(plain, ("raise", HOST_ERROR, reply[1]))
    return reply


def _built(plain, f, args, named, fuel):
    name = f[1]
    outcome = call_refusal(name, args, named)
    if outcome != ():
        return settled(plain, outcome)
    if name in OWN_WAYS:
        action = OWN_WAYS[name]
        return action(plain, args, fuel)
    return settled(plain, plain_built(plain.heap, name, args))


def _print(plain, args, fuel):
    told = ""
    for at, value in enumerate(args):
        outcome = _text(plain, value, fuel)
        if outcome[0] != "value":
            return outcome
        outcome = longer_line(told, ("ok", outcome[1]), at + 1 < len(args))
        if outcome[0] == "raise":
            return settled(plain, outcome)
        told = outcome[1]
    outcome = longer_output(plain.out, told)
    if outcome[0] == "raise":
        return settled(plain, outcome)
    plain.out = outcome[1]
    return ("value", NOTHING)


def _text(plain, value, fuel):
    found = text_method(plain.heap, value, True)
    if found != ():
        return asked(plain, found, fuel)
    return settled(plain, words(plain.heap, value))


def _length(plain, args, fuel):
    found = length_method(plain.heap, args[0])
    if found != ():
        return asked(plain, found, fuel)
    return settled(plain, plain_built(plain.heap, "len", args))


def _repr(plain, args, fuel):
    found = text_method(plain.heap, args[0], False)
    if found != ():
        return asked(plain, found, fuel)
    return settled(plain, plain_built(plain.heap, "repr", args))


def _str(plain, args, fuel):
    if len(args) == 0:
        return ("value", ("text", ""))
    return _text(plain, args[0], fuel)


def _list(plain, args, fuel):
    return _collected(plain, "list", args, fuel)


def _tuple(plain, args, fuel):
    return _collected(plain, "tuple", args, fuel)


def _collected(plain, kind, args, fuel):
    if len(args) == 1 and sort_of(plain.heap, args[0]) in ("iter", "gen", "inst"):
        return gathered(plain, kind, args[0], fuel)
    return settled(plain, plain_built(plain.heap, kind, args))


def _iter(plain, args, fuel):
    return iterated(plain, args[0], fuel)


def _next(plain, args, fuel):
    outcome = advanced(plain, args[0], fuel)
    if len(args) == 2 and has_ended(plain, outcome):
        return ("value", args[1])
    return outcome


def _send(plain, args, fuel):
    return settled(plain, ("raise", STOP_ITERATION, ""))


def _close(plain, args, fuel):
    return ("value", NOTHING)


CALLS = {
    "func": _function,
    "class": _class,
    "bound": _bound,
    "inst": _instance,
    "built": _built,
    "host": _host,
}

# The built-in functions and methods that may ask methods of a program's own.
OWN_WAYS = {
    "print": _print,
    "len": _length,
    "repr": _repr,
    "str": _str,
    "list": _list,
    "tuple": _tuple,
    "iter": _iter,
    "next": _next,
    "gen.send": _send,
    "gen.close": _close,
}
