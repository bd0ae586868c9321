"""References, reachable objects, the live size and canonical numbers (h4 to h7)."""

import random
import unittest

from pyhold.core import start_heap
from pyhold.fields import CONTROLS, OBJECTS
from pyhold.frames import FIELDS
from pyhold.machine import Machine, at_rest, step
from pyhold.reach import (
    control_references, frame_references, live_size, object_references, reached, renumber, same_run)
from tests.heaps import NONE, YES, ints
from tests.machines import fields
from tests.samples import SIGNALS, samples, some_machines, stepped


def moved(machine, order):
    """The same run with its objects in another order: `order` has the old number for each new one."""
    numbers = {old: new for new, old in enumerate(order)}

    def value(v):
        return ("ref", numbers[v[1]]) if v[0] == "ref" else v

    def field(letter, part):
        if letter == "v":
            return value(part)
        if letter == "V":
            return tuple(value(v) for v in part)
        if letter == "W":
            return tuple((value(v), value(w)) for v, w in part)
        if letter == "X":
            return tuple((x, value(v)) for x, v in part)
        if letter == "s":
            return part[:1] + tuple(value(v) for v in part[1:])
        if letter == "F":
            return tuple(item(FIELDS, frame) for frame in part)
        if letter in "ab" and part >= 0:
            return numbers[part]
        return part

    def item(table, what):
        return what[:1] + tuple(field(letter, part) for letter, part in zip(table[what[0]], what[1:]))

    heap = [item(OBJECTS, machine.heap[old]) for old in order]
    return Machine(
        item(CONTROLS, machine.control), [item(FIELDS, frame) for frame in machine.frames], heap, machine.out,
        machine.active, machine.here, machine.line, machine.steps)


def shuffled(machine, seed, garbage=True):
    """The same run with its objects in an order at random, and with others that nothing refers to."""
    chance = random.Random(seed)
    copy = Machine(**fields(machine))
    if garbage:
        last = len(copy.heap) - 1
        copy.heap += [("list", (("ref", last), ("ref", last + 1))), ("inst", 7, ()), ("tuple", (("text", "x"),))]
    rest = list(range(17, len(copy.heap)))
    chance.shuffle(rest)
    return moved(copy, list(range(17)) + rest)


class References(unittest.TestCase):
    def test_the_examples(self):
        self.assertEqual(
            object_references(("inst", 20, (("a", ("ref", 7)), ("b", ("int", 1)), ("c", ("ref", 7))))), [20, 7, 7])
        self.assertEqual(object_references(("class", "C", -1, ())), [])

    def test_each_kind(self):
        for table, function in (
                (OBJECTS, object_references), (FIELDS, frame_references), (CONTROLS, control_references)):
            for item, expected in samples(table):
                found = function(item)
                self.assertEqual(found, expected, item)
                self.assertIs(type(found), list)

    def test_no_number(self):
        self.assertEqual(frame_references(("class2", "K", -1, 3, 4)), [3, 4])
        self.assertEqual(frame_references(("class2", "K", 0, 3, 4)), [0, 3, 4])
        self.assertEqual(object_references(("scope", (), (), (), -1, False)), [])
        self.assertEqual(object_references(("scope", (("a", ("ref", 9)),), (), (), 0, False)), [9, 0])

    def test_signals(self):
        for signal, expected in zip(SIGNALS, ([], [], [], [], [5])):
            self.assertEqual(frame_references(("after", signal)), expected)
        self.assertEqual(control_references(("leave", ("return", ("ref", 8)))), [8])


class Reached(unittest.TestCase):
    def machine(self, control=("done",), frames=(), objects=()):
        return Machine(control, list(frames), start_heap(()) + list(objects), "", 0, "module", 1, 0)

    def test_the_beginning(self):
        self.assertEqual(reached(self.machine()), list(range(17)))

    def test_the_order(self):
        objects = [("list", (("ref", 22),)), ("list", ()), ("list", (("ref", 21), ("ref", 17))), ("list", ()),
                   ("list", ()), ("list", ()), ("list", (("ref", 20),)), ("list", (("ref", 23),))]
        frames = (("bin2", "+", ("ref", 18)), ("item2", ("ref", 19)))
        machine = self.machine(("value", ("ref", 24)), frames, objects)
        # The control, the frames from the innermost one, and then what is found on the way.
        self.assertEqual(reached(machine), list(range(17)) + [24, 18, 19, 23, 21, 17, 20, 22])

    def test_the_module_comes_behind_the_frames(self):
        machine = self.machine(("done",), (("ret",), ("del2", ("ref", 18))), (("list", ()), ("list", ())))
        machine.heap[0] = ("scope", (("a", ("ref", 17)),), (), (), -1, False)
        self.assertEqual(reached(machine), list(range(17)) + [18, 17])

    def test_rings(self):
        objects = (("list", (("ref", 18),)), ("tuple", (("ref", 17), ("ref", 18))))
        self.assertEqual(reached(self.machine(("value", ("ref", 18)), (), objects)), list(range(17)) + [18, 17])

    def test_what_cannot_be_reached(self):
        objects = (("list", (("ref", 18),)), ("list", ()), ("list", ()))
        self.assertEqual(reached(self.machine(("value", ("ref", 19)), (), objects)), list(range(17)) + [19])

    def test_frames_of_generators(self):
        objects = (("gen", "g", "paused", (("item2", ("ref", 19)), ("rest", (), 18))), ("list", ()), ("list", ()))
        self.assertEqual(reached(self.machine(("value", ("ref", 17)), (), objects)), list(range(17)) + [17, 19, 18])

    def test_a_long_chain(self):
        objects = [("list", (("ref", 18 + k),)) for k in range(3000)] + [("list", ())]
        self.assertEqual(reached(self.machine(("value", ("ref", 17)), (), objects)), list(range(3018)))


class LiveSize(unittest.TestCase):
    def size(self, control=("done",), frames=(), objects=()):
        machine = Machine(control, list(frames), start_heap(("ask",)) + list(objects), "out", 0, "module", 1, 0)
        return live_size(machine)

    def test_the_beginning(self):
        # 17 objects; the module has 16 classes, 13 functions, and ask.
        self.assertEqual(self.size(), 17 + 30)

    def test_controls(self):
        for control, weight in (
                (("value", NONE), 1), (("value", ("text", "")), 1), (("value", ("text", "abc")), 4), (("exec", (), 0), 0),
                (("value", ("int", 2 ** 200)), 1), (("value", ("span", 0, 9)), 1), (("value", ("built", "print")), 1),
                (("call", YES, (YES, ("text", "ab")), (("name", ("text", "x")),)), 1 + 1 + 3 + 2), (("leave", ("break",)), 0),
                (("leave", ("return", ("text", "ab"))), 3), (("store", ("name", "a"), YES, 0), 1),
                (("resume", 1, "next", ("text", "a")), 2), (("ask", "f", (("text", "a"), YES)), 3),
                (("eval", ("const", ("text", "abc")), 0), 0)):
            self.assertEqual(self.size(control), 47 + weight, control)

    def test_frames(self):
        for frame, weight in (
                (("ret",), 0), (("body", "far", 3), 0), (("bin2", "+", ("text", "ab")), 3), (("after", ()), 0),
                (("after", ("return", ("text", "ab"))), 3), (("print", ("text", "ab "), (YES, NONE)), 6),
                (("dict1", ((("text", "k"), YES),), (), (), 0), 3),
                (("def", "f", (), (), (), (("a", ("text", "xy")),), (), 0), 3)):
            self.assertEqual(self.size(frames=(frame,)), 48 + weight, frame)
        self.assertEqual(self.size(frames=(("ret",), ("drop",), ("forget",))), 50)

    def test_objects(self):
        for item, weight in (
                (("list", ()), 0), (("tuple", (YES, ("text", "abc"))), 5), (("dict", ((("text", "k"), ("text", "abc")),)), 6),
                (("scope", (("a", ("text", "x")),), ("a", "b"), (), 0, False), 2),
                (("func", "f", ("a",), (("a", ("text", "x")),), (("pass", 1),), ((), (), False), 0), 2),
                (("class", "K", 1, (("a", YES),)), 1), (("inst", 3, (("a", ("text", "xyz")),)), 4),
                (("bound", ("text", "xyz"), ("built", "str.find")), 5), (("iter", ("text", "xyz"), 1, -1), 4),
                (("gen", "g", "over", ()), 0), (("gen", "g", "paused", (("ret",), ("bin2", "+", ("text", "a")))), 4)):
            self.assertEqual(self.size(("value", ("ref", 17)), (), (item,)), 49 + weight, item)

    def test_what_cannot_be_reached(self):
        self.assertEqual(self.size(objects=(("list", ints(1, 2, 3)),)), 47)

    def test_an_object_counts_once(self):
        self.assertEqual(self.size(("call", ("ref", 17), (("ref", 17),), ()), (), (("list", ()),)), 50)


class Renumber(unittest.TestCase):
    def test_nothing_to_do(self):
        machine = stepped("", 0)
        self.assertEqual(fields(renumber(machine)), fields(machine))

    def test_an_example(self):
        objects = [("list", (("ref", 19), ("ref", 17))), ("list", ()), ("inst", 7, (("a", ("ref", 17)),)),
                   ("gen", "g", "paused", (("bin2", "+", ("ref", 19)), ("class2", "K", -1, 0, 21))),
                   ("scope", (("a", ("ref", 20)),), ("a",), (), 0, False)]
        machine = Machine(
            ("store", ("name", "a"), ("ref", 20), 21), [("after", ("return", ("ref", 17)))], start_heap(()) + objects,
            "out", 3, "f", 7, 99)
        before = fields(machine)
        made = renumber(machine)
        self.assertEqual(fields(machine), before)
        self.assertEqual(fields(made), {
            "control": ("store", ("name", "a"), ("ref", 17), 18), "frames": [("after", ("return", ("ref", 19)))],
            "heap": start_heap(()) + [
                ("gen", "g", "paused", (("bin2", "+", ("ref", 20)), ("class2", "K", -1, 0, 18))),
                ("scope", (("a", ("ref", 17)),), ("a",), (), 0, False), ("list", (("ref", 20), ("ref", 19))),
                ("inst", 7, (("a", ("ref", 19)),))],
            "out": "out", "active": 3, "here": "f", "line": 7, "steps": 99})

    def test_a_new_machine(self):
        for machine in some_machines():
            before = fields(machine)
            made = renumber(machine)
            self.assertEqual(fields(machine), before)
            self.assertIsNot(made, machine)
            self.assertIsNot(made.heap, machine.heap)
            self.assertIsNot(made.frames, machine.frames)
            self.assertEqual(reached(made), list(range(len(made.heap))))
            self.assertEqual(fields(renumber(made)), fields(made))

    def test_whatever_the_order(self):
        for seed, machine in enumerate(some_machines()):
            other = shuffled(machine, seed)
            self.assertEqual(fields(renumber(other)), fields(renumber(machine)))

    def test_it_goes_on_alike(self):
        for seed, machine in enumerate(some_machines()[::5]):
            other = shuffled(renumber(machine), seed)
            while not at_rest(machine):
                self.assertIs(step(machine), step(other))
                if machine.steps > 2000:
                    break
            self.assertEqual(fields(renumber(machine)), fields(renumber(other)))


class SameRun(unittest.TestCase):
    def test_the_same(self):
        for seed, machine in enumerate(some_machines()):
            self.assertIs(same_run(machine, shuffled(machine, seed)), True)
            self.assertIs(same_run(renumber(machine), machine), True)

    def test_another_field(self):
        machine = stepped("a = [1]\nb = a + a\n", 9)
        before = fields(machine)
        for name, other in (
                ("control", ("value", ("int", 2))), ("frames", machine.frames[1:]), ("frames", machine.frames + [("ret",)]),
                ("out", "a"), ("active", 1), ("here", "f"), ("line", 9), ("steps", 10)):
            changed = dict(before)
            self.assertNotEqual(changed[name], other)
            changed[name] = other
            self.assertIs(same_run(machine, Machine(**changed)), False, name)

    def test_another_object(self):
        machine = stepped("a = [1]\n", 20)
        other = stepped("a = [2]\n", 20)
        self.assertIs(same_run(machine, other), False)
        self.assertIs(same_run(machine, stepped("a = (1,)\n", 20)), False)
        self.assertIs(same_run(machine, stepped("a = [1]\n", 20)), True)

    def test_the_same_object_or_an_equal_one(self):
        one, other = stepped("a = []\nb = a\nc = a\n", 50), stepped("a = []\nb = []\nc = a\n", 50)
        self.assertIs(same_run(one, other), False)

    def test_true_is_not_1(self):
        self.assertIs(same_run(stepped("a = True\n", 20), stepped("a = 1\n", 20)), False)
        one, other = stepped("", 0), stepped("", 0)
        one.heap[0] = one.heap[0][:5] + (False,)
        other.heap[0] = other.heap[0][:5] + (0,)
        self.assertIs(same_run(one, other), False)

    def test_arguments_stay(self):
        machine = stepped("a = [1]\n", 20)
        before = fields(machine)
        same_run(machine, machine)
        self.assertEqual(fields(machine), before)


if __name__ == "__main__":
    unittest.main()
