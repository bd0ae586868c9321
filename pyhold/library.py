"""The built-in functions and methods."""

from pyhold.entries import dict_outcome
from pyhold.faults import settle
from pyhold.functions import function_outcome
from pyhold.gathering import begin_gather
from pyhold.generators import advance, iterate
from pyhold.output import print_values
from pyhold.own import own_length, own_text
from pyhold.rows import row_outcome
from pyhold.signatures import call_refusal, kind_refusal
from pyhold.texts import text_outcome
from pyhold.values import sort_of


def built(machine, name, args, named):
    """Begins a call of a built-in function or method, a method with its receiver first."""
    outcome = call_refusal(name, args, named)
    if outcome != ():
        settle(machine, outcome)
    elif name in OWN_WAYS:
        action = OWN_WAYS[name]
        action(machine, args)
    else:
        settle(machine, plain_built(machine.heap, name, args))


def plain_built(heap, name, args):
    """The outcome of a built-in function or method that asks no method of a program's own."""
    outcome = kind_refusal(heap, name, args)
    if outcome != ():
        return outcome
    if name.startswith("str."):
        return text_outcome(heap, name, args)
    if name.startswith("dict."):
        return dict_outcome(heap, name, args)
    if "." in name:
        return row_outcome(heap, name, args)
    return function_outcome(heap, name, args)


def _print(machine, args):
    print_values(machine, "", args)


def _length(machine, args):
    if not own_length(machine, args[0]):
        settle(machine, plain_built(machine.heap, "len", args))


def _repr(machine, args):
    if not own_text(machine, args[0], False):
        settle(machine, plain_built(machine.heap, "repr", args))


def _str(machine, args):
    if len(args) == 0 or not own_text(machine, args[0], True):
        settle(machine, plain_built(machine.heap, "str", args))


def _list(machine, args):
    _collect(machine, "list", args)


def _tuple(machine, args):
    _collect(machine, "tuple", args)


def _collect(machine, kind, args):
    if len(args) == 1 and sort_of(machine.heap, args[0]) in ("iter", "gen", "inst"):
        begin_gather(machine, kind, args[0])
    else:
        settle(machine, plain_built(machine.heap, kind, args))


def _iter(machine, args):
    iterate(machine, args[0])


def _next(machine, args):
    if len(args) == 2:
        machine.frames.insert(0, ("default", args[1]))
    advance(machine, args[0])


def _send(machine, args):
    machine.control = ("resume", args[0][1], "send", args[1])


def _close(machine, args):
    machine.control = ("resume", args[0][1], "close", ("none",))


# Those whose outcome is not always there at once.
OWN_WAYS = {
    "print": _print,
    "len": _length,
    "repr": _repr,
    "str": _str,
    "list": _list,
    "tuple": _tuple,
    "iter": _iter,
    "next": _next,
    "gen.send": _send,
    "gen.close": _close,
}
