"""The names and arguments of the interface, each in the file where it belongs."""

import importlib
import inspect
import unittest

FUNCTIONS = {
    "core": ("start_heap(hosts)",),
    "words": ("split(text)", "quoted(text)"),
    "parsing": ("parse(text)", "level(expression)"),
    "printing": ("shown(program)", "without_lines(program)"),
    "scopes": ("lower(program)", "bound(block)"),
    "compiling": ("compile_text(text)",),
    "values": ("kind_name(heap, value)", "truth(heap, value)", "length(heap, value)"),
    "arithmetic": ("binary(heap, op, a, b)", "negated(heap, a)"),
    "comparing": ("equal(heap, a, b)", "compare(heap, op, a, b)", "is_key(heap, value)"),
    "items": (
        "item(heap, a, index)", "part(heap, a, low, high)", "put_item(heap, a, index, value)",
        "drop_item(heap, a, index)"),
    "showing": ("show(heap, value)", "words(heap, value)"),
    "names": ("look_up(heap, env, x)", "bind_name(heap, env, x, v)", "unbind_name(heap, env, x)"),
    "binding": ("bind(name, params, defaults, args, named)",),
    "faults": ("new_fault(heap, n, words)", "fail(machine, n, words)", "settle(machine, outcome)"),
    "classes": (
        "class_line(heap, k)", "is_kind(heap, value, k)", "member(heap, k, x)", "attribute(heap, value, x)",
        "put_attribute(heap, value, x, w)", "method(heap, value, x)", "function_member(heap, k, x)",
        "new_instance(heap, k, args)", "base_refusal(heap, base)"),
    "own": (
        "own_binary(machine, op, a, b)", "own_minus(machine, a)", "own_compare(machine, op, a, b)",
        "own_item(machine, a, i)", "own_put_item(machine, a, i, v)", "own_drop_item(machine, a, i)",
        "own_length(machine, a)", "own_text(machine, a, plain)", "own_iter(machine, a)"),
    "library": ("built(machine, name, args, named)", "plain_built(heap, name, args)"),
    "generators": (
        "resume(machine, g, how, value)", "give(machine, value)", "iterate(machine, value)",
        "advance(machine, it)"),
}

CONSTANTS = {
    "core": (("CHARACTERS", str), ("CLASSES", tuple), ("BASES", tuple), ("BUILT", tuple)),
    "frames": (("FIELDS", dict),),
}


class Interface(unittest.TestCase):
    def test_functions(self):
        for name, rows in FUNCTIONS.items():
            module = importlib.import_module("pyhold." + name)
            for row in rows:
                function = getattr(module, row.split("(")[0])
                self.assertEqual(function.__module__, "pyhold." + name)
                self.assertEqual(function.__name__ + str(inspect.signature(function)), row)

    def test_constants(self):
        for name, rows in CONSTANTS.items():
            module = importlib.import_module("pyhold." + name)
            for constant, kind in rows:
                self.assertIs(type(getattr(module, constant)), kind)

    def test_machine(self):
        module = importlib.import_module("pyhold.machine")
        frames, heap = [], []
        machine = module.Machine(("done",), frames, heap, "out", 3, "f", 5, 8)
        self.assertEqual(
            vars(machine), {"control": ("done",), "frames": [], "heap": [], "out": "out", "active": 3,
                            "here": "f", "line": 5, "steps": 8})
        self.assertIs(machine.frames, frames)
        self.assertIs(machine.heap, heap)
        self.assertEqual(
            list(inspect.signature(module.Machine).parameters),
            ["control", "frames", "heap", "out", "active", "here", "line", "steps"])


if __name__ == "__main__":
    unittest.main()
