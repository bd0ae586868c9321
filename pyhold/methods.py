"""Which method of a program's own class an operation asks.

Each of these functions gives the function, its arguments (the operand whose method it is
first) and what it must give ("" for anything); or (), if there is no such method."""

from pyhold.classes import method

ARITHMETIC_METHODS = {"+": "op_add", "-": "op_sub", "*": "op_mul", "//": "op_div", "mod": "op_mod"}

ORDER_METHODS = {"<": "op_lt", "<=": "op_le", ">": "op_gt", ">=": "op_ge"}

# What a comparison wants of the method.
ANSWERS = {"==": "bool", "!=": "notbool", "in": "bool", "notin": "notbool"}


def binary_method(heap, op, a, b):
    """For `a op b`."""
    return _found(heap, a, ARITHMETIC_METHODS[op], (b,), "")


def minus_method(heap, a):
    """For `-a`."""
    return _found(heap, a, "op_neg", (), "")


def compare_method(heap, op, a, b):
    """For the comparison `a op b`."""
    if op in ("==", "!="):
        found = _found(heap, a, "op_eq", (b,), ANSWERS[op])
        if found == ():
            found = _found(heap, b, "op_eq", (a,), ANSWERS[op])
        return found
    if op in ("in", "notin"):
        return _found(heap, b, "op_in", (a,), ANSWERS[op])
    if op in ORDER_METHODS:
        return _found(heap, a, ORDER_METHODS[op], (b,), "bool")
    return ()


def item_method(heap, a, i):
    """For `a[i]`."""
    return _found(heap, a, "op_item", (i,), "")


def put_item_method(heap, a, i, v):
    """For `a[i] = v`."""
    return _found(heap, a, "op_put", (i, v), "nothing")


def drop_item_method(heap, a, i):
    """For `del a[i]`."""
    return _found(heap, a, "op_drop", (i,), "nothing")


def length_method(heap, a):
    """For `len(a)`."""
    return _found(heap, a, "op_len", (), "count")


def text_method(heap, a, plain):
    """For `str(a)`, or for `repr(a)` if it is not to be plain."""
    found = ()
    if plain:
        found = _found(heap, a, "op_str", (), "text")
    if found == ():
        found = _found(heap, a, "op_repr", (), "text")
    return found


def iter_method(heap, a):
    """For `iter(a)`."""
    return _found(heap, a, "op_iter", (), "iterator")


def next_method(heap, a):
    """For the next element of `a`."""
    return _found(heap, a, "op_next", (), "")


def _found(heap, a, x, others, what):
    function = method(heap, a, x)
    if function == ():
        return ()
    return (function, (a,) + others, what)
