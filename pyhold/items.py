"""Items and slices."""

from pyhold.core import INDEX_ERROR, KEY_ERROR, MOST_ENTRIES, TYPE_ERROR, VALUE_ERROR
from pyhold.keys import key_place
from pyhold.showing import show
from pyhold.values import DONE, TOO_LARGE, is_number, kind_name, made_row, object_kind, row_kind, row_of


def item(heap, a, index):
    """The outcome of `a[index]`."""
    if object_kind(heap, a) == "dict":
        entries = heap[a[1]][1]
        outcome = entry_place(heap, entries, index)
        if outcome[0] == "raise":
            return outcome
        return ("ok", entries[outcome[1]][1])
    if a[0] != "span" and row_kind(heap, a) == "":
        return _refusal(heap, "no items", a)
    outcome = row_place(heap, _size(heap, a), index)
    if outcome[0] == "raise":
        return outcome
    return ("ok", element(heap, a, outcome[1]))


def part(heap, a, low, high):
    """The outcome of `a[low:high]`; a new tuple or list comes to the end of the heap."""
    kind = row_kind(heap, a)
    if kind == "":
        return _refusal(heap, "no slices", a)
    row = row_of(heap, a)
    for bound in (low, high):
        if bound[0] != "none" and not is_number(bound):
            return _refusal(heap, "slice bound is no integer", bound)
    first = 0
    if low[0] != "none":
        first = slice_place(len(row), low)
    last = len(row)
    if high[0] != "none":
        last = slice_place(len(row), high)
    return made_row(heap, kind, row[first:last])


def put_item(heap, a, index, value):
    """The outcome of `a[index] = value`."""
    kind = object_kind(heap, a)
    if kind == "list":
        items = heap[a[1]][1]
        outcome = row_place(heap, len(items), index)
        if outcome[0] == "raise":
            return outcome
        at = outcome[1]
        heap[a[1]] = ("list", items[:at] + (value,) + items[at + 1:])
        return DONE
    if kind == "dict":
        return _put_entry(heap, a, index, value)
    return _refusal(heap, "items cannot be set", a)


def drop_item(heap, a, index):
    """The outcome of `del a[index]`."""
    kind = object_kind(heap, a)
    if kind not in ("list", "dict"):
        return _refusal(heap, "items cannot be deleted", a)
    rows = heap[a[1]][1]
    if kind == "list":
        outcome = row_place(heap, len(rows), index)
    else:
        outcome = entry_place(heap, rows, index)
    if outcome[0] == "raise":
        return outcome
    at = outcome[1]
    heap[a[1]] = (kind, rows[:at] + rows[at + 1:])
    return DONE


def row_place(heap, size, index):
    """The outcome that is the place that an index means in a row of this size."""
    if not is_number(index):
        return _refusal(heap, "index is no integer", index)
    place = int(index[1])
    if place < 0:
        place += size
    if place < 0 or place >= size:
        return ("raise", INDEX_ERROR, "index out of range")
    return ("ok", place)


def slice_place(size, bound):
    """The place that an integer means as a bound of a slice of a row of this size."""
    place = int(bound[1])
    if place < 0:
        place += size
    return max(0, min(size, place))


def entry_place(heap, entries, key):
    """The outcome that is the place of the entry with a key, which must be there."""
    outcome = key_place(heap, entries, key)
    if outcome == ("ok", -1):
        return missing_key(heap, key)
    return outcome


def with_entry(heap, entries, key, value):
    """The outcome that is the entries of a dict with a value for a key, which may be new."""
    outcome = key_place(heap, entries, key)
    if outcome[0] == "raise":
        return outcome
    at = outcome[1]
    if at >= 0:
        return ("ok", entries[:at] + ((entries[at][0], value),) + entries[at + 1:])
    if len(entries) >= MOST_ENTRIES:
        return TOO_LARGE
    return ("ok", entries + ((key, value),))


def missing_key(heap, key):
    """The refusal of a key that is not there."""
    outcome = show(heap, key)
    if outcome[0] == "raise":
        return outcome
    return ("raise", KEY_ERROR, outcome[1][1])


def element(heap, a, place):
    """The item at a place of a text, tuple, list or span that has it."""
    if a[0] == "span":
        return ("int", a[1] + place)
    if a[0] == "text":
        return ("text", a[1][place])
    return heap[a[1]][1][place]


def unpacked(heap, a, many):
    """The outcome that is the items of a text, tuple, list or span, which must be so many."""
    if a[0] != "span" and row_kind(heap, a) == "":
        return ("raise", TYPE_ERROR, "not iterable")
    if _size(heap, a) != many:
        return ("raise", VALUE_ERROR, "wrong number of values")
    return ("ok", tuple([element(heap, a, at) for at in range(many)]))


def _size(heap, a):
    if a[0] == "span":
        return a[2] - a[1]
    return len(row_of(heap, a))


def _put_entry(heap, a, key, value):
    outcome = with_entry(heap, heap[a[1]][1], key, value)
    if outcome[0] == "raise":
        return outcome
    heap[a[1]] = ("dict", outcome[1])
    return DONE


def _refusal(heap, words, value):
    return ("raise", TYPE_ERROR, words + ": " + kind_name(heap, value))
