"""The built-in functions, without methods of a program's own."""

from pyhold.classes import is_kind
from pyhold.core import INTEGER_END, MOST_ENTRIES, VALUE_ERROR
from pyhold.showing import show, words
from pyhold.signatures import cannot_take
from pyhold.values import INTEGER_TOO_LARGE, TOO_LARGE, is_number, length, made_row, row_of, sort_of

# A text with more digits is no integer, whatever they are.
MOST_DIGITS = 78

# The kinds of values that are instances of a built-in function.
KINDS_OF_FUNCTIONS = {"int": "int bool", "str": "text", "list": "list", "tuple": "tuple", "dict": "dict"}


def function_outcome(heap, name, args):
    """The outcome of a built-in function."""
    action = FUNCTIONS[name]
    return action(heap, args)


def _length(heap, args):
    return length(heap, args[0])


def _range(heap, args):
    low = 0
    if len(args) == 2:
        low = int(args[0][1])
    return ("ok", ("span", low, max(low, int(args[-1][1]))))


def _repr(heap, args):
    return show(heap, args[0])


def _str(heap, args):
    if len(args) == 0:
        return ("ok", ("text", ""))
    return words(heap, args[0])


def _int(heap, args):
    if len(args) == 0:
        return ("ok", ("int", 0))
    if is_number(args[0]):
        return ("ok", ("int", int(args[0][1])))
    digits = args[0][1].removeprefix("-")
    if not digits.isdigit() or len(digits) > MOST_DIGITS:
        return ("raise", VALUE_ERROR, "invalid integer")
    number = int(args[0][1])
    if abs(number) >= INTEGER_END:
        return INTEGER_TOO_LARGE
    return ("ok", ("int", number))


def _list(heap, args):
    return _collected(heap, "list", args)


def _tuple(heap, args):
    return _collected(heap, "tuple", args)


def _dict(heap, args):
    if len(args) == 0:
        return made_row(heap, "dict", ())
    return made_row(heap, "dict", row_of(heap, args[0]))


def _collected(heap, kind, args):
    if len(args) == 0:
        return made_row(heap, kind, ())
    value = args[0]
    sort = sort_of(heap, value)
    if sort == "span" and value[2] - value[1] > MOST_ENTRIES:
        return TOO_LARGE
    if sort == "span":
        return made_row(heap, kind, tuple([("int", n) for n in range(value[1], value[2])]))
    row = row_of(heap, value)
    if sort == "text":
        return made_row(heap, kind, tuple([("text", letter) for letter in row]))
    if sort == "dict":
        return made_row(heap, kind, tuple([key for key, _ in row]))
    return made_row(heap, kind, row)


def _isinstance(heap, args):
    value, wanted = args
    if wanted[0] == "ref":
        return ("ok", ("bool", is_kind(heap, value, wanted[1])))
    if wanted[1] not in KINDS_OF_FUNCTIONS:
        return cannot_take(heap, "isinstance", wanted)
    return ("ok", ("bool", sort_of(heap, value) in KINDS_OF_FUNCTIONS[wanted[1]].split()))


def _abs(heap, args):
    return ("ok", ("int", abs(int(args[0][1]))))


FUNCTIONS = {
    "len": _length,
    "range": _range,
    "repr": _repr,
    "str": _str,
    "int": _int,
    "list": _list,
    "tuple": _tuple,
    "dict": _dict,
    "isinstance": _isinstance,
    "abs": _abs,
}
