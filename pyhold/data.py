"""Data, which a host and a program exchange."""

from pyhold.core import CHARACTERS, INTEGER_END, MOST_ENTRIES
from pyhold.errors import BadData
from pyhold.values import sort_of

MOST_LEVELS = 6
MOST_SIZE = 1000


def is_data(data):
    """Tells if something is data."""
    size = 0
    waiting = [(data, 1, False)]
    while waiting:
        part, level, in_key = waiting.pop()
        size += 1
        if level > MOST_LEVELS or size + len(waiting) > MOST_SIZE:
            return False
        kind = _kind(part)
        if kind == "tuple" or (kind == "list" and not in_key):
            waiting.extend([(each, level + 1, in_key) for each in part])
        elif kind == "dict" and not in_key:
            waiting.extend([(key, level + 1, True) for key in part])
            waiting.extend([(part[key], level + 1, False) for key in part])
        elif not _is_leaf(kind, part):
            return False
    return True


def put_data(heap, data):
    """The value of data; new objects come to the end of the heap, each behind its parts."""
    if not is_data(data):
        raise BadData()
    return _put(heap, data)


def take_data(heap, value):
    """The data of a value."""
    if not _goes_out(heap, value):
        raise BadData()
    return _taken(heap, value)


def copied_data(data):
    """The same data, of which nothing is what was handed in and can be changed."""
    heap = []
    value = put_data(heap, data)
    return take_data(heap, value)


def goes(heap, values):
    """Tells if each of some values goes out as data."""
    return all([_goes_out(heap, value) for value in values])


def same_data(one, other):
    """Tells if two data are the same, with all kinds and the order of entries."""
    kind = _kind(one)
    if kind != _kind(other):
        return False
    if kind == "dict":
        return same_data(list(one.items()), list(other.items()))
    if kind in ("tuple", "list"):
        return len(one) == len(other) and all([same_data(a, b) for a, b in zip(one, other)])
    return one == other


def _kind(data):
    """The kind of the value of data, or "" for what cannot be data."""
    if data is None:
        return "none"
    if isinstance(data, bool):
        return "bool"
    if isinstance(data, int):
        return "int"
    if isinstance(data, str):
        return "text"
    if isinstance(data, tuple):
        return "tuple"
    if isinstance(data, list):
        return "list"
    if isinstance(data, dict):
        return "dict"
    return ""


def _is_leaf(kind, data):
    """Tells if something of this kind has no parts and keeps to the bounds."""
    if kind == "text":
        return len(data) <= MOST_ENTRIES and all([character in CHARACTERS for character in data])
    if kind == "int":
        return abs(data) < INTEGER_END
    return kind in ("none", "bool")


def _put(heap, data):
    kind = _kind(data)
    if kind == "none":
        return ("none",)
    if kind in ("bool", "int", "text"):
        return (kind, data)
    if kind == "dict":
        parts = tuple([(_put(heap, key), _put(heap, part)) for key, part in data.items()])
    else:
        parts = tuple([_put(heap, part) for part in data])
    heap.append((kind, parts))
    return ("ref", len(heap) - 1)


def _goes_out(heap, value):
    """Tells if a value goes out: the same bounds as those of data, for a value and its parts."""
    size = 0
    waiting = [(value, 1, False)]
    while waiting:
        part, level, in_key = waiting.pop()
        size += 1
        if level > MOST_LEVELS or size + len(waiting) > MOST_SIZE:
            return False
        kind = sort_of(heap, part)
        if kind == "tuple" or (kind == "list" and not in_key):
            waiting.extend([(each, level + 1, in_key) for each in heap[part[1]][1]])
        elif kind == "dict" and not in_key:
            waiting.extend([(key, level + 1, True) for key, _ in heap[part[1]][1]])
            waiting.extend([(worth, level + 1, False) for _, worth in heap[part[1]][1]])
        elif not _is_leaf(kind, part[-1]):
            return False
    return True


def _taken(heap, value):
    kind = sort_of(heap, value)
    if kind == "none":
        return None
    if kind in ("bool", "int", "text"):
        return value[1]
    parts = heap[value[1]][1]
    if kind == "dict":
        return {_taken(heap, key): _taken(heap, worth) for key, worth in parts}
    if kind == "list":
        return [_taken(heap, part) for part in parts]
    return tuple([_taken(heap, part) for part in parts])
