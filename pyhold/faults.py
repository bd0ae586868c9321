"""New exceptions of a program, and the control behind an operation."""


def new_fault(heap, n, words):
    """A new exception of the class with this number and one text."""
    heap.append(("tuple", (("text", words),)))
    heap.append(("inst", n, (("args", ("ref", len(heap) - 1)),)))
    return ("ref", len(heap) - 1)


def fail(machine, n, words):
    """Makes the machine raise a new exception."""
    machine.control = ("leave", ("raise", new_fault(machine.heap, n, words)))


def settle(machine, outcome):
    """Makes the outcome of an operation the control of the machine."""
    if outcome[0] == "raise":
        fail(machine, outcome[1], outcome[2])
    else:
        machine.control = ("value", outcome[1])


def is_raise(control):
    """Tells if a control is that an exception was raised."""
    return control[0] == "leave" and control[1][:1] == ("raise",)
