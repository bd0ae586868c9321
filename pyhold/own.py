"""Asking the methods that a program's own classes have for operations."""

from pyhold.classes import method

ARITHMETIC_METHODS = {"+": "op_add", "-": "op_sub", "*": "op_mul", "//": "op_div", "mod": "op_mod"}

ORDER_METHODS = {"<": "op_lt", "<=": "op_le", ">": "op_gt", ">=": "op_ge"}

# What a comparison wants of the method.
ANSWERS = {"==": "bool", "!=": "notbool", "in": "bool", "notin": "notbool"}


def own_binary(machine, op, a, b):
    """Asks for `a op b`; tells if there is a method, as all of these functions do."""
    return _asked(machine, a, ARITHMETIC_METHODS[op], (b,), "")


def own_minus(machine, a):
    """Asks for `-a`."""
    return _asked(machine, a, "op_neg", (), "")


def own_compare(machine, op, a, b):
    """Asks for the comparison `a op b`."""
    if op in ("==", "!="):
        return _asked(machine, a, "op_eq", (b,), ANSWERS[op]) or _asked(machine, b, "op_eq", (a,), ANSWERS[op])
    if op in ("in", "notin"):
        return _asked(machine, b, "op_in", (a,), ANSWERS[op])
    if op in ORDER_METHODS:
        return _asked(machine, a, ORDER_METHODS[op], (b,), "bool")
    return False


def own_item(machine, a, i):
    """Asks for `a[i]`."""
    return _asked(machine, a, "op_item", (i,), "")


def own_put_item(machine, a, i, v):
    """Asks for `a[i] = v`."""
    return _asked(machine, a, "op_put", (i, v), "nothing")


def own_drop_item(machine, a, i):
    """Asks for `del a[i]`."""
    return _asked(machine, a, "op_drop", (i,), "nothing")


def own_length(machine, a):
    """Asks for `len(a)`."""
    return _asked(machine, a, "op_len", (), "count")


def own_text(machine, a, plain):
    """Asks for `str(a)`, or for `repr(a)` if it is not to be plain."""
    if plain and _asked(machine, a, "op_str", (), "text"):
        return True
    return _asked(machine, a, "op_repr", (), "text")


def own_iter(machine, a):
    """Asks for `iter(a)`."""
    return _asked(machine, a, "op_iter", (), "iterator")


def _asked(machine, a, x, others, wanted):
    """Calls the method x of a with the other operands, and tells if there is one."""
    found = method(machine.heap, a, x)
    if found == ():
        return False
    if wanted != "":
        machine.frames.insert(0, ("want", wanted))
    machine.control = ("call", found, (a,) + others, ())
    return True
