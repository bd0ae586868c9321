"""The methods of texts."""

from pyhold.core import MOST_ENTRIES
from pyhold.signatures import cannot_take
from pyhold.values import TOO_LARGE, made_row, row_of

EMPTY_TEXT = ("raise", 11, "empty text")


def text_outcome(heap, name, args):
    """The outcome of a method of a text, which is the first of its arguments."""
    action = METHODS[name]
    return action(heap, args[0][1], args[1:])


def _find(heap, text, args):
    return ("ok", ("int", text.find(args[0][1])))


def _replace(heap, text, args):
    if args[0][1] == "":
        return EMPTY_TEXT
    return _text(text.replace(args[0][1], args[1][1]))


def _split(heap, text, args):
    if len(args) == 0:
        parts = text.split()
    elif args[0][1] == "":
        return EMPTY_TEXT
    else:
        parts = text.split(args[0][1])
    if len(parts) > MOST_ENTRIES:
        return TOO_LARGE
    return made_row(heap, "list", tuple([("text", part) for part in parts]))


def _join(heap, text, args):
    parts = []
    for value in row_of(heap, args[0]):
        if value[0] != "text":
            return cannot_take(heap, "str.join", value)
        parts.append(value[1])
    return _text(text.join(parts))


def _startswith(heap, text, args):
    return ("ok", ("bool", text.startswith(args[0][1])))


def _endswith(heap, text, args):
    return ("ok", ("bool", text.endswith(args[0][1])))


def _strip(heap, text, args):
    return _text(text.strip())


def _upper(heap, text, args):
    return _text(text.upper())


def _lower(heap, text, args):
    return _text(text.lower())


def _isdigit(heap, text, args):
    return ("ok", ("bool", text.isdigit()))


def _text(text):
    if len(text) > MOST_ENTRIES:
        return TOO_LARGE
    return ("ok", ("text", text))


METHODS = {
    "str.find": _find,
    "str.replace": _replace,
    "str.split": _split,
    "str.join": _join,
    "str.startswith": _startswith,
    "str.endswith": _endswith,
    "str.strip": _strip,
    "str.upper": _upper,
    "str.lower": _lower,
    "str.isdigit": _isdigit,
}
