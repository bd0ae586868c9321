"""The methods of lists and tuples."""

from pyhold.comparing import equal
from pyhold.core import MOST_ENTRIES, VALUE_ERROR
from pyhold.items import row_place, slice_place
from pyhold.values import DONE, TOO_LARGE, made_row, row_of


def row_outcome(heap, name, args):
    """The outcome of a method of a list or a tuple, which is the first of its arguments."""
    action = METHODS[name]
    return action(heap, args[0], args[1:])


def _append(heap, a, args):
    return _put_items(heap, a, row_of(heap, a) + args)


def _pop(heap, a, args):
    items = row_of(heap, a)
    index = ("int", -1)
    if len(args) == 1:
        index = args[0]
    outcome = row_place(heap, len(items), index)
    if outcome[0] == "raise":
        return outcome
    at = outcome[1]
    _put_items(heap, a, items[:at] + items[at + 1:])
    return ("ok", items[at])


def _insert(heap, a, args):
    items = row_of(heap, a)
    at = slice_place(len(items), args[0])
    return _put_items(heap, a, items[:at] + args[1:] + items[at:])


def _remove(heap, a, args):
    items = row_of(heap, a)
    outcome = _index(heap, a, args)
    if outcome[0] == "raise":
        return outcome
    at = outcome[1][1]
    return _put_items(heap, a, items[:at] + items[at + 1:])


def _index(heap, a, args):
    for at, value in enumerate(row_of(heap, a)):
        if equal(heap, value, args[0]):
            return ("ok", ("int", at))
    return ("raise", VALUE_ERROR, "not in " + heap[a[1]][0])


def _count(heap, a, args):
    return ("ok", ("int", len([value for value in row_of(heap, a) if equal(heap, value, args[0])])))


def _extend(heap, a, args):
    return _put_items(heap, a, row_of(heap, a) + row_of(heap, args[0]))


def _reverse(heap, a, args):
    return _put_items(heap, a, row_of(heap, a)[::-1])


def _copy(heap, a, args):
    return made_row(heap, "list", row_of(heap, a))


def _clear(heap, a, args):
    return _put_items(heap, a, ())


def _put_items(heap, a, items):
    if len(items) > MOST_ENTRIES:
        return TOO_LARGE
    heap[a[1]] = ("list", items)
    return DONE


METHODS = {
    "list.append": _append,
    "list.pop": _pop,
    "list.insert": _insert,
    "list.remove": _remove,
    "list.index": _index,
    "list.count": _count,
    "list.extend": _extend,
    "list.reverse": _reverse,
    "list.copy": _copy,
    "list.clear": _clear,
    "tuple.index": _index,
    "tuple.count": _count,
}
