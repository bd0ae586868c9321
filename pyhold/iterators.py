"""Iterators over lists, tuples, texts, ranges and dicts."""

from pyhold.core import RUNTIME_ERROR, STOP_ITERATION
from pyhold.items import element
from pyhold.values import NOTHING, object_kind, row_kind


def new_iterator(heap, value):
    """A new iterator over a value, or () if it is of another kind."""
    size = -1
    if object_kind(heap, value) == "dict":
        size = len(heap[value[1]][1])
    elif value[0] != "span" and row_kind(heap, value) == "":
        return ()
    heap.append(("iter", value, 0, size))
    return ("ref", len(heap) - 1)


def next_element(heap, k):
    """The outcome that is the next element of the iterator k, which goes on."""
    _, what, place, size = heap[k]
    many = _many(heap, what)
    if object_kind(heap, what) == "dict" and many != size:
        return ("raise", RUNTIME_ERROR, "dict changed")
    if place < many:
        heap[k] = ("iter", what, place + 1, size)
        return ("ok", _at(heap, what, place))
    heap[k] = ("iter", NOTHING, 0, -1)
    return ("raise", STOP_ITERATION, "")


def _many(heap, what):
    """How many elements an iterator goes over."""
    if what[0] == "none":
        return 0
    if what[0] == "span":
        return what[2] - what[1]
    if what[0] == "text":
        return len(what[1])
    return len(heap[what[1]][1])


def _at(heap, what, place):
    found = element(heap, what, place)
    if object_kind(heap, what) == "dict":
        return found[0]
    return found
