"""The names and arguments of the interface, each in the file where it belongs."""

import importlib
import inspect
import unittest

FUNCTIONS = {
    "core": ("start_heap(hosts)",),
    "words": ("split(text)", "quoted(text)"),
    "parsing": ("parse(text)", "level(expression)"),
    "printing": ("shown(program)", "without_lines(program)"),
    "scopes": ("lower(program)", "bound(block)"),
    "compiling": ("compile_text(text)",),
    "values": ("kind_name(heap, value)", "truth(heap, value)", "length(heap, value)"),
    "arithmetic": ("binary(heap, op, a, b)", "negated(heap, a)"),
    "comparing": ("equal(heap, a, b)", "compare(heap, op, a, b)", "is_key(heap, value)"),
    "items": (
        "item(heap, a, index)", "part(heap, a, low, high)", "put_item(heap, a, index, value)",
        "drop_item(heap, a, index)"),
    "showing": ("show(heap, value)", "words(heap, value)"),
    "names": ("look_up(heap, env, x)", "bind_name(heap, env, x, v)", "unbind_name(heap, env, x)"),
    "binding": ("bind(name, params, defaults, args, named)",),
    "faults": ("new_fault(heap, n, words)", "fail(machine, n, words)", "settle(machine, outcome)"),
    "classes": (
        "class_line(heap, k)", "is_kind(heap, value, k)", "member(heap, k, x)", "attribute(heap, value, x)",
        "put_attribute(heap, value, x, w)", "method(heap, value, x)", "function_member(heap, k, x)",
        "new_instance(heap, k, args)", "base_refusal(heap, base)"),
    "own": (
        "own_binary(machine, op, a, b)", "own_minus(machine, a)", "own_compare(machine, op, a, b)",
        "own_item(machine, a, i)", "own_put_item(machine, a, i, v)", "own_drop_item(machine, a, i)",
        "own_length(machine, a)", "own_text(machine, a, plain)", "own_iter(machine, a)"),
    "library": ("built(machine, name, args, named)", "plain_built(heap, name, args)"),
    "machine": ("start(code, hosts)", "at_rest(machine)", "step(machine)"),
    "calls": ("call(machine, f, args, named)", "meet(machine, frame)"),
    "meaning": ("has_yield(code)", "run_plain(code, hosts, replies, fuel, left)"),
    "data": (
        "is_data(data)", "put_data(heap, data)", "take_data(heap, value)", "goes(heap, values)",
        "same_data(one, other)"),
    "reach": (
        "object_references(item)", "frame_references(frame)", "control_references(control)", "reached(machine)",
        "live_size(machine)", "renumber(machine)", "same_run(machine, other)"),
    "coding": (
        "write_count(n)", "write_integer(i)", "write_string(text)", "write_value(value)", "write_tree(tree)",
        "write_object(item)", "write_frame(frame)", "write_control(control)"),
    "decoding": (
        "read_count(numbers, at)", "read_integer(numbers, at)", "read_string(numbers, at, *, most)",
        "read_value(numbers, at)", "read_tree(numbers, at)", "read_object(numbers, at)", "read_frame(numbers, at)",
        "read_control(numbers, at)"),
    "holding": ("write_machine(machine, taken)", "read_machine(numbers)"),
    "runs": (
        "begin(text, hosts=(), *, limit=None)", "restore(numbers, *, limit=None)",
        "replay(text, hosts, replies, steps)"),
    "generators": (
        "resume(machine, g, how, value)", "give(machine, value)", "iterate(machine, value)",
        "advance(machine, it)"),
}

CONSTANTS = {
    "core": (("CHARACTERS", str), ("CLASSES", tuple), ("BASES", tuple), ("BUILT", tuple)),
    "frames": (("FIELDS", dict),),
    "fields": (("OBJECTS", dict), ("CONTROLS", dict)),
}

# The methods that are listed for a class are defined in the class itself.
CLASSES = {
    "meaning": ("Plain(hosts, replies, left)", (
        "evaluate(self, e, env, fuel)", "execute(self, block, env, fuel)", "store(self, target, value, env, fuel)",
        "apply(self, f, args, named, fuel)")),
    "runs": ("Run", (
        "set_limit(self, limit)", "state(self)", "size(self)", "where(self)", "go(self, many)", "request(self)",
        "answer(self, data)", "refuse(self, kind, message)", "take(self)", "failure(self)", "twin(self)",
        "hold(self)", "same_as(self, other)")),
    "tapes": ("Tape(run)", (
        "position(self)", "end(self)", "run(self)", "forward(self, many)", "back(self, many)", "answer(self, data)",
        "refuse(self, kind, message)")),
}


class Interface(unittest.TestCase):
    def test_functions(self):
        for name, rows in FUNCTIONS.items():
            module = importlib.import_module("pyhold." + name)
            for row in rows:
                function = getattr(module, row.split("(")[0])
                self.assertEqual(function.__module__, "pyhold." + name)
                self.assertEqual(function.__name__ + str(inspect.signature(function)), row)

    def test_classes(self):
        for name, (row, methods) in CLASSES.items():
            module = importlib.import_module("pyhold." + name)
            made = getattr(module, row.split("(")[0])
            self.assertEqual(made.__module__, "pyhold." + name)
            if "(" in row:
                self.assertEqual(made.__name__ + str(inspect.signature(made)), row)
            for method in methods:
                function = vars(made)[method.split("(")[0]]
                self.assertEqual(function.__name__ + str(inspect.signature(function)), method)

    def test_constants(self):
        for name, rows in CONSTANTS.items():
            module = importlib.import_module("pyhold." + name)
            for constant, kind in rows:
                self.assertIs(type(getattr(module, constant)), kind)

    def test_machine(self):
        module = importlib.import_module("pyhold.machine")
        frames, heap = [], []
        machine = module.Machine(("done",), frames, heap, "out", 3, "f", 5, 8)
        self.assertEqual(
            vars(machine), {"control": ("done",), "frames": [], "heap": [], "out": "out", "active": 3,
                            "here": "f", "line": 5, "steps": 8})
        self.assertIs(machine.frames, frames)
        self.assertIs(machine.heap, heap)
        self.assertEqual(
            list(inspect.signature(module.Machine).parameters),
            ["control", "frames", "heap", "out", "active", "here", "line", "steps"])


if __name__ == "__main__":
    unittest.main()
