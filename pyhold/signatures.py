"""Which arguments the built-in functions and methods take."""

from pyhold.core import TYPE_ERROR
from pyhold.values import kind_name, sort_of

# The least and the greatest number of arguments, -1 if there is none, with the receiver
# of a method; and the kinds of those behind the receiver, as far as not all are taken.
SIGNATURES = {
    "print": (0, -1, ()),
    "len": (1, 1, ()),
    "range": (1, 2, ("int bool", "int bool")),
    "repr": (1, 1, ()),
    "str": (0, 1, ()),
    "int": (0, 1, ("int bool text",)),
    "list": (0, 1, ("list tuple text span dict",)),
    "tuple": (0, 1, ("list tuple text span dict",)),
    "dict": (0, 1, ("dict",)),
    "iter": (1, 1, ()),
    "next": (1, 2, ()),
    "isinstance": (2, 2, ("", "class built")),
    "abs": (1, 1, ("int bool",)),
    "str.find": (2, 2, ("text",)),
    "str.replace": (3, 3, ("text", "text")),
    "str.split": (1, 2, ("text",)),
    "str.join": (2, 2, ("list tuple",)),
    "str.startswith": (2, 2, ("text",)),
    "str.endswith": (2, 2, ("text",)),
    "str.strip": (1, 1, ()),
    "str.upper": (1, 1, ()),
    "str.lower": (1, 1, ()),
    "str.isdigit": (1, 1, ()),
    "list.append": (2, 2, ()),
    "list.pop": (1, 2, ()),
    "list.insert": (3, 3, ("int bool",)),
    "list.remove": (2, 2, ()),
    "list.index": (2, 2, ()),
    "list.count": (2, 2, ()),
    "list.extend": (2, 2, ("list tuple",)),
    "list.reverse": (1, 1, ()),
    "list.copy": (1, 1, ()),
    "list.clear": (1, 1, ()),
    "tuple.index": (2, 2, ()),
    "tuple.count": (2, 2, ()),
    "dict.get": (2, 3, ()),
    "dict.pop": (2, 3, ()),
    "dict.setdefault": (3, 3, ()),
    "dict.update": (2, 2, ("dict",)),
    "dict.keys": (1, 1, ()),
    "dict.values": (1, 1, ()),
    "dict.items": (1, 1, ()),
    "dict.copy": (1, 1, ()),
    "dict.clear": (1, 1, ()),
    "gen.send": (2, 2, ()),
    "gen.close": (1, 1, ()),
}


def call_refusal(name, args, named):
    """The refusal of a call for the names or the number of its arguments, or ()."""
    least, most, _ = SIGNATURES[name]
    if named:
        return ("raise", TYPE_ERROR, name + "() takes no named arguments")
    if len(args) < least or (len(args) > most and most >= 0):
        return ("raise", TYPE_ERROR, name + "() takes a different number of arguments")
    return ()


def kind_refusal(heap, name, args):
    """The refusal of the first argument of a kind that is not taken, or ()."""
    _, _, kinds = SIGNATURES[name]
    behind = args
    if "." in name:
        behind = args[1:]
    for value, taken in zip(behind, kinds):
        if taken != "" and sort_of(heap, value) not in taken.split():
            return cannot_take(heap, name, value)
    return ()


def cannot_take(heap, name, value):
    """The refusal of an argument for its kind."""
    return ("raise", TYPE_ERROR, name + "() cannot take " + kind_name(heap, value))
