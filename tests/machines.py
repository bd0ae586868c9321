"""Machines for tests."""

from pyhold.core import start_heap
from pyhold.machine import Machine
from tests.heaps import NONE

FUNCTION = ("func", "f", (), (), (), ((), (), False), 0)


def machine_of(heap=None, frames=(), active=0, out="", here="module", line=1):
    if heap is None:
        heap = start_heap(("ask",))
    return Machine(("done",), list(frames), heap, out, active, here, line, 7)


def fields(machine):
    """All that a machine has, so that what is left alone can be told."""
    return {
        "control": machine.control, "frames": list(machine.frames), "heap": list(machine.heap),
        "out": machine.out, "active": machine.active, "here": machine.here, "line": machine.line,
        "steps": machine.steps}


def with_class(heap, *names, base=-1):
    """Puts a class Box with a function for each name, and an instance; gives the instance."""
    first = len(heap)
    heap.extend([FUNCTION] * len(names))
    members = tuple((name, ("ref", first + at)) for at, name in enumerate(names))
    heap.append(("class", "Box", base, members))
    heap.append(("inst", len(heap) - 1, ()))
    return ("ref", len(heap) - 1)


def new_machine(*names):
    """A machine, and an instance of a class with a function for each name."""
    machine = machine_of(frames=[("ret",)])
    return machine, with_class(machine.heap, *names)


def member_of(machine, value, name):
    """The function that is a member of the class of an instance."""
    return dict(machine.heap[machine.heap[value[1]][1]][3])[name]


def raised(test, machine, before, n, words):
    """Checks that a machine raises this, and that nothing else has changed but the control."""
    size = len(before["heap"])
    expected = dict(before)
    expected["control"] = ("leave", ("raise", ("ref", size + 1)))
    expected["heap"] = before["heap"] + [
        ("tuple", (("text", words),)), ("inst", n, (("args", ("ref", size)),))]
    test.assertEqual(fields(machine), expected)


def settled(test, machine, before, value=NONE, **others):
    """Checks that a machine has a value, and that nothing else has changed but the others."""
    expected = dict(before)
    expected["control"] = ("value", value)
    expected.update(others)
    test.assertEqual(fields(machine), expected)
