"""Classes, their members, and attributes."""

from pyhold.core import ATTRIBUTE_ERROR, CLASSES, EXCEPTION, MOST_BASES
from pyhold.pairs import paired, with_pair
from pyhold.signatures import SIGNATURES
from pyhold.values import DONE, kind_name, object_kind, sort_of

# How the methods of a built-in kind are called.
METHOD_KINDS = {"text": "str", "list": "list", "tuple": "tuple", "dict": "dict", "gen": "gen"}


def class_line(heap, k):
    """The numbers of a class, its base, the base of that, and so on."""
    line = []
    while k >= 0:
        line.append(k)
        k = heap[k][2]
    return tuple(line)


def is_kind(heap, value, k):
    """Tells if a value is an instance of a class or of one below it."""
    return object_kind(heap, value) == "inst" and k in class_line(heap, heap[value[1]][1])


def is_exception_class(heap, value):
    """Tells if a value is a class whose instances are exceptions."""
    return object_kind(heap, value) == "class" and EXCEPTION in class_line(heap, value[1])


def member(heap, k, x):
    """The member of a class, which may be one of its bases', or () if there is none."""
    for each in class_line(heap, k):
        found = paired(heap[each][3], x)
        if found != ():
            return found
    return ()


def attribute(heap, value, x):
    """The outcome of `value.x`; a method is a new object at the end of the heap."""
    kind = object_kind(heap, value)
    if kind == "inst":
        found = _attribute_of_instance(heap, value, x)
    elif kind == "class":
        found = member(heap, value[1], x)
    else:
        found = _method_of_kind(heap, value, x)
    if found == ():
        return _no_attribute(heap, value, x)
    return ("ok", found)


def put_attribute(heap, value, x, w):
    """The outcome of `value.x = w`."""
    kind = object_kind(heap, value)
    if kind == "inst":
        _, k, members = heap[value[1]]
        heap[value[1]] = ("inst", k, with_pair(members, x, w))
        return DONE
    if kind != "class":
        return _no_attribute(heap, value, x)
    _, name, base, members = heap[value[1]]
    if value[1] <= len(CLASSES):
        return ("raise", ATTRIBUTE_ERROR, "class " + name + " cannot be changed")
    heap[value[1]] = ("class", name, base, with_pair(members, x, w))
    return DONE


def method(heap, value, x):
    """The function that is the member x of the class of an instance, or ()."""
    if object_kind(heap, value) != "inst":
        return ()
    return function_member(heap, heap[value[1]][1], x)


def function_member(heap, k, x):
    """The function that is the member x of a class, or ()."""
    found = member(heap, k, x)
    if found == () or object_kind(heap, found) != "func":
        return ()
    return found


def new_instance(heap, k, args):
    """A new instance of a class; one of an exception has its arguments as a member."""
    members = ()
    if EXCEPTION in class_line(heap, k):
        heap.append(("tuple", args))
        members = (("args", ("ref", len(heap) - 1)),)
    heap.append(("inst", k, members))
    return ("ref", len(heap) - 1)


def base_refusal(heap, base):
    """Why a value cannot be the base of a class, in words, or ""."""
    if object_kind(heap, base) != "class":
        return "not a class"
    if len(class_line(heap, base[1])) >= MOST_BASES:
        return "too many bases"
    return ""


def _attribute_of_instance(heap, value, x):
    _, k, members = heap[value[1]]
    found = paired(members, x)
    if found != ():
        return found
    function = function_member(heap, k, x)
    if function != ():
        return _bound(heap, value, function)
    return member(heap, k, x)


def _method_of_kind(heap, value, x):
    name = METHOD_KINDS.get(sort_of(heap, value), "") + "." + x
    if name not in SIGNATURES:
        return ()
    return _bound(heap, value, ("built", name))


def _bound(heap, receiver, function):
    heap.append(("bound", receiver, function))
    return ("ref", len(heap) - 1)


def _no_attribute(heap, value, x):
    return ("raise", ATTRIBUTE_ERROR, kind_name(heap, value) + " has no attribute " + x)
