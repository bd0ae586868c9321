"""Checks of calls of built-in functions and methods, with Python's data as arguments."""

from pyhold.library import built, plain_built
from tests.heaps import TOO_LARGE, put, take
from tests.machines import fields, machine_of, raised, settled


class BuiltCalls:
    """For a TestCase: each call is made in a heap alone, and by a machine."""

    def arguments(self, args):
        machine = machine_of(frames=[("ret",)], active=60, out="a\n", here="f", line=5)
        return machine, tuple([put(machine.heap, data) for data in args])

    def gives(self, name, args, expected, receiver=None, objects=0):
        """The call has this value; the receiver, if one is told, is changed to that,
        nothing else is changed, and so many new objects are made."""
        machine, values = self.arguments(args)
        before = fields(machine)
        heap = list(before["heap"])
        outcome = plain_built(heap, name, values)
        self.assertEqual(outcome[0], "ok", (name, args, outcome))
        self.same(take(heap, outcome[1]), expected)
        self.assertEqual(len(heap), len(before["heap"]) + objects)
        for k, found in enumerate(before["heap"]):
            if receiver is not None and values[0] == ("ref", k):
                self.same(take(heap, values[0]), receiver)
            else:
                self.assertIs(heap[k], found)
        self.assertIsNone(built(machine, name, values, ()))
        settled(self, machine, before, outcome[1], heap=heap)

    def same(self, found, expected):
        self.assertEqual(found, expected)
        self.assertEqual(repr(found), repr(expected))

    def refuses(self, name, args, n, words):
        """The call is refused, and nothing is changed."""
        machine, values = self.arguments(args)
        self.refuses_values(machine, name, values, n, words)

    def refuses_values(self, machine, name, values, n, words):
        before = fields(machine)
        heap = list(before["heap"])
        self.assertEqual(plain_built(heap, name, values), ("raise", n, words))
        self.assertEqual(heap, before["heap"])
        built(machine, name, values, ())
        raised(self, machine, before, n, words)

    def too_large(self, name, args):
        self.refuses(name, args, *TOO_LARGE[1:])
