"""New functions and classes."""


def new_function(heap, x, params, defaults, block, names, env):
    """A new function; the params are pairs of a name and an expression."""
    heap.append(("func", x, tuple([name for name, _ in params]), defaults, block, names, env))
    return ("ref", len(heap) - 1)


def new_class_scope(heap, names, env):
    """The number of a new scope for the block of a class."""
    heap.append(("scope", (), names[0], names[1], env, True))
    return len(heap) - 1


def new_class(heap, x, base, scope):
    """A new class, whose members are the variables of the scope of its block."""
    heap.append(("class", x, base, heap[scope][1]))
    return ("ref", len(heap) - 1)
