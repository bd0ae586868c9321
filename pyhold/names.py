"""Looking up, binding and deleting names in scopes."""

from pyhold.core import NAME_ERROR
from pyhold.pairs import paired, with_pair, without_pair
from pyhold.values import DONE

# The number of the scope of the module.
MODULE = 0


def look_up(heap, env, x):
    """The outcome that is the value of a name in a scope."""
    k = env
    while k >= 0:
        _, variables, own, shared, around, of_class = heap[k]
        if k == env or not of_class:
            if x in shared:
                return _variable(heap[MODULE][1], x)
            if paired(variables, x) != () or (x in own and not of_class):
                return _variable(variables, x)
        k = around
    return _not_bound(x)


def bind_name(heap, env, x, v):
    """Binds a name where the scope says."""
    home = _home(heap, env, x)
    _put_variables(heap, home, with_pair(heap[home][1], x, v))


def unbind_name(heap, env, x):
    """The outcome of deleting a name where the scope would bind it."""
    home = _home(heap, env, x)
    if paired(heap[home][1], x) == ():
        return _not_bound(x)
    _put_variables(heap, home, without_pair(heap[home][1], x))
    return DONE


def _home(heap, env, x):
    """The number of the scope in which a scope binds a name."""
    _, _, own, shared, around, of_class = heap[env]
    if x in shared:
        return MODULE
    if of_class or x in own:
        return env
    while around >= 0:
        k = around
        _, _, own, shared, around, of_class = heap[k]
        if not of_class and x in shared:
            return MODULE
        if not of_class and x in own:
            return k
    return MODULE


def _put_variables(heap, k, variables):
    _, _, own, shared, around, of_class = heap[k]
    heap[k] = ("scope", variables, own, shared, around, of_class)


def _variable(variables, x):
    value = paired(variables, x)
    if value == ():
        return _not_bound(x)
    return ("ok", value)


def _not_bound(x):
    return ("raise", NAME_ERROR, "not bound: " + x)
