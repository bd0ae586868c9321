"""What a call makes and refuses, by what is called, as far as it hangs on the heap alone."""

from pyhold.binding import bind
from pyhold.classes import is_exception_class, method, new_instance
from pyhold.core import TYPE_ERROR
from pyhold.data import goes
from pyhold.values import DONE, NOTHING, kind_name, sort_of


def bound_variables(heap, f, args, named):
    """The outcome that is the variables of a call of a function."""
    _, name, params, defaults, _, _, _ = heap[f[1]]
    return bind(name, params, defaults, args, named)


def new_call_scope(heap, f, variables):
    """The number of a new scope for a call of a function."""
    _, _, _, _, _, names, around = heap[f[1]]
    heap.append(("scope", variables, names[0], names[1], around, False))
    return len(heap) - 1


def instance_outcome(heap, k, args, named):
    """The outcome that is a new instance of a class without op_init."""
    is_exception = is_exception_class(heap, ("ref", k))
    if is_exception and named:
        return _refusal(heap[k][1] + "() takes no named arguments")
    if not is_exception and (args or named):
        return _refusal(heap[k][1] + "() takes no arguments")
    return ("ok", new_instance(heap, k, args))


def begun_outcome(instance, value):
    """The outcome of a call of a class whose op_init gave a value."""
    if value != NOTHING:
        return _refusal("op_init() must give None")
    return ("ok", instance)


def host_refusal(heap, name, args, named):
    """The refusal of a call of a function of the host, or ()."""
    if named:
        return _refusal(name + "() takes no named arguments")
    if not goes(heap, args):
        return _refusal("argument cannot go out")
    return ()


def not_called(heap, f):
    """The refusal of a call of what cannot be called."""
    return _refusal(kind_name(heap, f) + " cannot be called")


def wanted(heap, what, value):
    """The outcome of a method of a program's own that must give something."""
    if what == "nothing":
        return DONE
    if what in ("bool", "notbool"):
        return _wanted_bool(what, value)
    if what == "count" and (value[0] != "int" or value[1] < 0):
        return _refusal("method must give a count")
    if what == "text" and value[0] != "text":
        return _refusal("method must give a text")
    if what == "iterator" and not _is_iterator(heap, value):
        return _refusal("method must give an iterator")
    return ("ok", value)


def _wanted_bool(what, value):
    if value[0] != "bool":
        return _refusal("method must give a boolean")
    return ("ok", ("bool", value[1] == (what == "bool")))


def _is_iterator(heap, value):
    return sort_of(heap, value) in ("iter", "gen") or method(heap, value, "op_next") != ()


def _refusal(words):
    return ("raise", TYPE_ERROR, words)
