"""Asking the methods that a program's own classes have for operations.

Each of these functions begins the call of the method and tells if there is one."""

from pyhold.methods import (
    binary_method, compare_method, drop_item_method, item_method, iter_method, length_method,
    minus_method, put_item_method, text_method)


def own_binary(machine, op, a, b):
    """Asks for `a op b`."""
    return _begin(machine, binary_method(machine.heap, op, a, b))


def own_minus(machine, a):
    """Asks for `-a`."""
    return _begin(machine, minus_method(machine.heap, a))


def own_compare(machine, op, a, b):
    """Asks for the comparison `a op b`."""
    return _begin(machine, compare_method(machine.heap, op, a, b))


def own_item(machine, a, i):
    """Asks for `a[i]`."""
    return _begin(machine, item_method(machine.heap, a, i))


def own_put_item(machine, a, i, v):
    """Asks for `a[i] = v`."""
    return _begin(machine, put_item_method(machine.heap, a, i, v))


def own_drop_item(machine, a, i):
    """Asks for `del a[i]`."""
    return _begin(machine, drop_item_method(machine.heap, a, i))


def own_length(machine, a):
    """Asks for `len(a)`."""
    return _begin(machine, length_method(machine.heap, a))


def own_text(machine, a, plain):
    """Asks for `str(a)`, or for `repr(a)` if it is not to be plain."""
    return _begin(machine, text_method(machine.heap, a, plain))


def own_iter(machine, a):
    """Asks for `iter(a)`."""
    return _begin(machine, iter_method(machine.heap, a))


def _begin(machine, found):
    if found == ():
        return False
    function, args, what = found
    if what != "":
        machine.frames.insert(0, ("want", what))
    machine.control = ("call", function, args, ())
    return True
