"""The plain meaning of iterating."""

from pyhold.classes import is_kind
from pyhold.core import MOST_ENTRIES, STOP_ITERATION, TYPE_ERROR
from pyhold.iterators import new_iterator, next_element
from pyhold.methods import iter_method, next_method
from pyhold.plain_outcomes import LONG, asked, may_begin, settled
from pyhold.values import TOO_LARGE, kind_name, made_row, object_kind


def iterated(plain, value, fuel):
    """The outcome of iter(value)."""
    made = new_iterator(plain.heap, value)
    if made != ():
        return ("value", made)
    found = iter_method(plain.heap, value)
    if found != ():
        return asked(plain, found, fuel)
    if object_kind(plain.heap, value) in ("iter", "gen") or next_method(plain.heap, value) != ():
        return ("value", value)
    return settled(plain, ("raise", TYPE_ERROR, kind_name(plain.heap, value) + " cannot be iterated"))


def advanced(plain, it, fuel):
    """The outcome of next(it)."""
    kind = object_kind(plain.heap, it)
    if kind == "iter":
        return settled(plain, next_element(plain.heap, it[1]))
    if kind == "gen":
        # There are no generators that go on here: those of a program with yield are over.
        return settled(plain, ("raise", STOP_ITERATION, ""))
    found = next_method(plain.heap, it)
    if found != ():
        return asked(plain, found, fuel)
    return settled(plain, ("raise", TYPE_ERROR, kind_name(plain.heap, it) + " is no iterator"))


def has_ended(plain, outcome):
    """Tells if the outcome of asking for an element is that there is none."""
    return outcome[0] == "raise" and is_kind(plain.heap, outcome[1], STOP_ITERATION)


def gathered(plain, kind, value, fuel):
    """The outcome of a new list or tuple of what a value gives."""
    outcome = iterated(plain, value, fuel)
    if outcome[0] != "value":
        return outcome
    it = outcome[1]
    got = []
    outcome = advanced(plain, it, fuel)
    while outcome[0] == "value":
        if not may_begin(plain):
            return LONG
        if len(got) == MOST_ENTRIES:
            return settled(plain, TOO_LARGE)
        got.append(outcome[1])
        outcome = advanced(plain, it, fuel)
    if has_ended(plain, outcome):
        return settled(plain, made_row(plain.heap, kind, tuple(got)))
    return outcome
