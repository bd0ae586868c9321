"""What a value is: its kind, its truth, its length."""

from pyhold.core import INTEGER_END, TYPE_ERROR

VALUE_KINDS = {
    "none": "NoneType",
    "bool": "bool",
    "int": "int",
    "text": "str",
    "span": "range",
    "built": "builtin",
    "host": "host",
}

OBJECT_KINDS = {
    "list": "list",
    "tuple": "tuple",
    "dict": "dict",
    "scope": "scope",
    "func": "function",
    "class": "class",
    "bound": "method",
    "iter": "iterator",
    "gen": "generator",
}

NOTHING = ("none",)

# The outcome of what has no value of its own.
DONE = ("ok", ("none",))

# Refusals: the second item is the number of the class that is raised.
INTEGER_TOO_LARGE = ("raise", 4, "integer too large")
TOO_LARGE = ("raise", 15, "too large")


def kind_name(heap, value):
    """The name of the kind of a value, for an instance that of its class."""
    if value[0] != "ref":
        return VALUE_KINDS[value[0]]
    found = heap[value[1]]
    if found[0] == "inst":
        return heap[found[1]][1]
    return OBJECT_KINDS[found[0]]


def truth(heap, value):
    """Tells if a value is true."""
    kind = value[0]
    if kind == "none":
        return False
    if is_number(value):
        return value[1] != 0
    if kind == "text":
        return value[1] != ""
    if kind == "span":
        return value[1] != value[2]
    if object_kind(heap, value) in ("tuple", "list", "dict"):
        return heap[value[1]][1] != ()
    return True


def length(heap, value):
    """The outcome of asking for the length of a value."""
    if value[0] == "span":
        size = value[2] - value[1]
        if size >= INTEGER_END:
            return INTEGER_TOO_LARGE
        return ("ok", ("int", size))
    if value[0] == "text":
        return ("ok", ("int", len(value[1])))
    if object_kind(heap, value) in ("tuple", "list", "dict"):
        return ("ok", ("int", len(heap[value[1]][1])))
    return ("raise", TYPE_ERROR, "no length: " + kind_name(heap, value))


def is_number(value):
    """Tells if a value counts as an integer."""
    return value[0] in ("int", "bool")


def object_kind(heap, value):
    """The kind of the object that a value refers to, or "" if it is no reference."""
    if value[0] != "ref":
        return ""
    return heap[value[1]][0]


def sort_of(heap, value):
    """The kind of a value, or of the object that it refers to."""
    if value[0] == "ref":
        return heap[value[1]][0]
    return value[0]


def row_kind(heap, value):
    """The kind of a text, a tuple or a list, or "" for anything else."""
    if value[0] == "text":
        return "text"
    kind = object_kind(heap, value)
    if kind in ("tuple", "list"):
        return kind
    return ""


def row_of(heap, value):
    """The characters of a text, or the items of a tuple or a list."""
    if value[0] == "text":
        return value[1]
    return heap[value[1]][1]


def made_row(heap, kind, row):
    """The outcome that is a text, or a new tuple or list with these items."""
    if kind == "text":
        return ("ok", ("text", row))
    heap.append((kind, row))
    return ("ok", ("ref", len(heap) - 1))


def same_leaf(a, b):
    """Tells if two values are equal, of which one at most is a reference."""
    if is_number(a) and is_number(b):
        return a[1] == b[1]
    if a[0] == "span" and b[0] == "span" and a[1] == a[2]:
        return b[1] == b[2]
    return a == b


def unsupported(heap, op, a, b):
    """The refusal of an operation on two values."""
    kinds = kind_name(heap, a) + " and " + kind_name(heap, b)
    return ("raise", TYPE_ERROR, "unsupported operands for " + op + ": " + kinds)
