"""The methods of dicts."""

from pyhold.core import MOST_ENTRIES
from pyhold.items import item, missing_key, put_item
from pyhold.keys import key_place, key_text
from pyhold.values import DONE, TOO_LARGE, made_row


def dict_outcome(heap, name, args):
    """The outcome of a method of a dict, which is the first of its arguments."""
    action = METHODS[name]
    return action(heap, args[0], args[1:])


def _get(heap, a, args):
    entries = heap[a[1]][1]
    outcome = key_place(heap, entries, args[0])
    if outcome[0] == "raise":
        return outcome
    if outcome[1] >= 0:
        return ("ok", entries[outcome[1]][1])
    if len(args) == 2:
        return ("ok", args[1])
    return DONE


def _pop(heap, a, args):
    entries = heap[a[1]][1]
    outcome = key_place(heap, entries, args[0])
    if outcome[0] == "raise":
        return outcome
    at = outcome[1]
    if at >= 0:
        heap[a[1]] = ("dict", entries[:at] + entries[at + 1:])
        return ("ok", entries[at][1])
    if len(args) == 2:
        return ("ok", args[1])
    return missing_key(heap, args[0])


def _setdefault(heap, a, args):
    outcome = key_place(heap, heap[a[1]][1], args[0])
    if outcome[0] == "ok" and outcome[1] < 0:
        outcome = put_item(heap, a, args[0], args[1])
    if outcome[0] == "raise":
        return outcome
    return item(heap, a, args[0])


def _update(heap, a, args):
    entries = list(heap[a[1]][1])
    places = {}
    for at, (key, _) in enumerate(entries):
        places[key_text(heap, key)] = at
    for key, worth in heap[args[0][1]][1]:
        text = key_text(heap, key)
        if text in places:
            at = places[text]
            entries[at] = (entries[at][0], worth)
        else:
            entries.append((key, worth))
    if len(entries) > MOST_ENTRIES:
        return TOO_LARGE
    heap[a[1]] = ("dict", tuple(entries))
    return DONE


def _keys(heap, a, args):
    return made_row(heap, "list", tuple([key for key, _ in heap[a[1]][1]]))


def _values(heap, a, args):
    return made_row(heap, "list", tuple([worth for _, worth in heap[a[1]][1]]))


def _items(heap, a, args):
    pairs = []
    entries = heap[a[1]][1]
    for entry in entries:
        heap.append(("tuple", entry))
        pairs.append(("ref", len(heap) - 1))
    return made_row(heap, "list", tuple(pairs))


def _copy(heap, a, args):
    return made_row(heap, "dict", heap[a[1]][1])


def _clear(heap, a, args):
    heap[a[1]] = ("dict", ())
    return DONE


METHODS = {
    "dict.get": _get,
    "dict.pop": _pop,
    "dict.setdefault": _setdefault,
    "dict.update": _update,
    "dict.keys": _keys,
    "dict.values": _values,
    "dict.items": _items,
    "dict.copy": _copy,
    "dict.clear": _clear,
}
