"""Heaps and values for tests."""

from pyhold.core import start_heap

NONE = ("none",)
YES = ("bool", True)
NO = ("bool", False)
EDGE = 2 ** 256
TOO_LARGE = ("raise", 15, "too large")
DONE = ("ok", NONE)

SCOPE = ("scope", (), (), (), -1, False)


def ints(*numbers):
    return tuple(("int", n) for n in numbers)


def texts(*words):
    return tuple(("text", t) for t in words)


def refs(*numbers):
    return tuple(("ref", k) for k in numbers)


def heap_of_all():
    """One object of each kind, with the kind's name."""
    return [
        (("list", ()), "list"),
        (("tuple", ()), "tuple"),
        (("dict", ()), "dict"),
        (SCOPE, "scope"),
        (("func", "f", (), (), (), ((), (), False), 3), "function"),
        (("class", "Box", -1, ()), "class"),
        (("inst", 5, ()), "Box"),
        (("bound", ("ref", 6), ("ref", 4)), "method"),
        (("iter", NONE, 0, -1), "iterator"),
        (("gen", "f", "over", ()), "generator"),
    ]


def all_kinds():
    """A heap, and one value of each kind with the kind's name, and a few more."""
    heap = start_heap(("ask",))
    first = len(heap)
    for number in range(3):
        heap.append(heap_of_all()[number][0])
    heap.append(("func", "f", (), (), (), ((), (), False), 0))
    heap.append(("class", "Box", -1, ()))
    heap.append(("inst", first + 4, ()))
    heap.append(("bound", ("ref", first + 5), ("ref", first + 3)))
    heap.append(("bound", ("ref", first), ("built", "list.append")))
    heap.append(("iter", ("ref", first), 0, -1))
    heap.append(("gen", "f", "over", ()))
    heap.append(("inst", 7, ()))
    kinds = (
        (NONE, "NoneType"), (YES, "bool"), (("int", 3), "int"), (("text", "a"), "str"),
        (("span", 0, 2), "range"), (("built", "len"), "builtin"), (("host", "ask"), "host"),
        (("ref", first), "list"), (("ref", first + 1), "tuple"), (("ref", first + 2), "dict"),
        (("ref", first + 3), "function"), (("ref", first + 4), "class"), (("ref", 10), "class"),
        (("ref", first + 5), "Box"), (("ref", first + 6), "method"), (("ref", first + 7), "method"),
        (("ref", first + 8), "iterator"), (("ref", first + 9), "generator"),
        (("ref", first + 10), "KeyError"))
    return heap, kinds


def nested(kind, depth):
    """A heap with objects within one another; the outermost is the last."""
    heap = [(kind, ())]
    for k in range(depth - 1):
        if kind == "dict":
            heap.append(("dict", ((("int", 1), ("ref", k)),)))
        else:
            heap.append((kind, (("ref", k),)))
    return heap


def put(heap, data):
    """The value of Python's data; their objects come to the end of the heap."""
    if data is None:
        return NONE
    if isinstance(data, bool):
        return ("bool", data)
    if isinstance(data, int):
        return ("int", data)
    if isinstance(data, str):
        return ("text", data)
    if isinstance(data, range):
        return ("span", data.start, data.stop)
    if isinstance(data, dict):
        entries = tuple((put(heap, key), put(heap, worth)) for key, worth in data.items())
        heap.append(("dict", entries))
    else:
        kind = type(data).__name__
        heap.append((kind, tuple(put(heap, each) for each in data)))
    return ("ref", len(heap) - 1)


def take(heap, value):
    """Python's data of a value."""
    if value[0] == "span":
        return range(value[1], value[2])
    if value[0] == "none":
        return None
    if value[0] != "ref":
        kinds = {"bool": bool, "int": int, "text": str}
        assert type(value[1]) is kinds[value[0]], value
        return value[1]
    kind, parts = heap[value[1]]
    if kind == "dict":
        return {take(heap, key): take(heap, worth) for key, worth in parts}
    return {"list": list, "tuple": tuple}[kind](take(heap, part) for part in parts)
