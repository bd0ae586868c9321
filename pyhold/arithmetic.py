"""Arithmetic of integers, and joining and repeating of texts, tuples and lists."""

from pyhold.core import INTEGER_END, MOST_ENTRIES, TYPE_ERROR, ZERO_DIVISION_ERROR
from pyhold.values import INTEGER_TOO_LARGE, TOO_LARGE, is_number, kind_name, made_row, row_kind, row_of, unsupported


def binary(heap, op, a, b):
    """The outcome of `a op b`; a new tuple or list comes to the end of the heap."""
    if is_number(a) and is_number(b):
        return _calculated(op, int(a[1]), int(b[1]))
    if op == "+" and row_kind(heap, a) != "" and row_kind(heap, a) == row_kind(heap, b):
        return _joined(heap, a, b)
    if op == "*" and row_kind(heap, a) != "" and is_number(b):
        return _repeated(heap, a, int(b[1]))
    if op == "*" and row_kind(heap, b) != "" and is_number(a):
        return _repeated(heap, b, int(a[1]))
    return unsupported(heap, op, a, b)


def negated(heap, a):
    """The outcome of `-a`."""
    if is_number(a):
        return ("ok", ("int", -int(a[1])))
    return ("raise", TYPE_ERROR, "unsupported operand for -: " + kind_name(heap, a))


def _calculated(op, one, other):
    if op in ("//", "mod") and other == 0:
        return ("raise", ZERO_DIVISION_ERROR, "division by zero")
    if op == "+":
        number = one + other
    elif op == "-":
        number = one - other
    elif op == "*":
        number = one * other
    elif op == "//":
        number = one // other
    else:
        number = one - one // other * other
    if abs(number) >= INTEGER_END:
        return INTEGER_TOO_LARGE
    return ("ok", ("int", number))


def _joined(heap, a, b):
    one = row_of(heap, a)
    other = row_of(heap, b)
    if len(one) + len(other) > MOST_ENTRIES:
        return TOO_LARGE
    return made_row(heap, row_kind(heap, a), one + other)


def _repeated(heap, a, many):
    row = row_of(heap, a)
    if many < 1 or len(row) == 0:
        return made_row(heap, row_kind(heap, a), row[:0])
    if len(row) * many > MOST_ENTRIES:
        return TOO_LARGE
    return made_row(heap, row_kind(heap, a), row * many)
