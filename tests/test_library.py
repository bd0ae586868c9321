"""The built-in functions that go on with others, or may ask a method of a program's own."""

import unittest

from pyhold.core import start_heap
from pyhold.gathering import meet_gather, meet_gather1
from pyhold.library import built
from tests.heaps import NO, NONE, TOO_LARGE, YES, all_kinds, ints, put, refs, texts
from tests.machines import fields, machine_of, member_of, new_machine, raised, settled, with_class

TOO_LARGE = TOO_LARGE[1:]
PAUSED = ("gen", "g", "paused", (("drop",),))
RET = ("ret",)


class OwnMethods(unittest.TestCase):
    def test_methods_are_asked(self):
        for name, x, wanted in (
                ("len", "op_len", "count"), ("repr", "op_repr", "text"), ("str", "op_str", "text"),
                ("str", "op_repr", "text"), ("iter", "op_iter", "iterator")):
            machine, box = new_machine(x)
            before = fields(machine)
            self.assertIsNone(built(machine, name, (box,), ()))
            before["frames"].insert(0, ("want", wanted))
            before["control"] = ("call", member_of(machine, box, x), (box,), ())
            self.assertEqual(fields(machine), before)

    def test_str_comes_ahead_of_repr(self):
        machine, box = new_machine("op_repr", "op_str")
        for name, x in (("str", "op_str"), ("repr", "op_repr")):
            built(machine, name, (box,), ())
            self.assertEqual(machine.control, ("call", member_of(machine, box, x), (box,), ()))

    def test_without_methods(self):
        machine, box = new_machine("op_str")
        before = fields(machine)
        built(machine, "repr", (box,), ())
        settled(self, machine, before, ("text", "<Box object>"))
        before = fields(machine)
        built(machine, "len", (box,), ())
        raised(self, machine, before, 10, "no length: Box")
        other = with_class(machine.heap, "op_len")
        for name in ("str", "repr"):
            before = fields(machine)
            built(machine, name, (other,), ())
            settled(self, machine, before, ("text", "<Box object>"))

    def test_methods_that_are_not_asked(self):
        for name in ("int", "abs", "range", "dict"):
            machine, box = new_machine("op_len", "op_str", "op_repr", "op_iter", "op_next", "op_neg")
            before = fields(machine)
            built(machine, name, (box,), ())
            raised(self, machine, before, 10, name + "() cannot take Box")


class Iterating(unittest.TestCase):
    def test_iter(self):
        machine = machine_of(frames=[RET])
        for data, size in (([1], -1), ((), -1), ("ab", -1), (range(2), -1), ({1: 2}, 1)):
            value = put(machine.heap, data)
            before = fields(machine)
            built(machine, "iter", (value,), ())
            settled(self, machine, before, ("ref", len(before["heap"])),
                    heap=before["heap"] + [("iter", value, 0, size)])

    def test_iter_refused(self):
        heap, kinds = all_kinds()
        for value, kind in kinds:
            if kind in ("NoneType", "int", "bool", "builtin", "function", "class", "Box", "method", "KeyError"):
                machine = machine_of(list(heap))
                before = fields(machine)
                built(machine, "iter", (value,), ())
                raised(self, machine, before, 10, kind + " cannot be iterated")

    def test_next(self):
        machine = machine_of(start_heap(()) + [("iter", ("text", "ab"), 0, -1)], [RET])
        for place, letter in enumerate("ab", 1):
            before = fields(machine)
            built(machine, "next", refs(17), ())
            settled(self, machine, before, ("text", letter),
                    heap=before["heap"][:17] + [("iter", ("text", "ab"), place, -1)])
        before = fields(machine)
        built(machine, "next", refs(17), ())
        before["heap"][17] = ("iter", NONE, 0, -1)
        raised(self, machine, before, 12, "")

    def test_next_with_a_default(self):
        machine = machine_of(start_heap(()) + [("iter", ("text", "a"), 0, -1)], [RET])
        before = fields(machine)
        built(machine, "next", refs(17, 5), ())
        settled(self, machine, before, ("text", "a"), frames=[("default", ("ref", 5)), RET],
                heap=before["heap"][:17] + [("iter", ("text", "a"), 1, -1)])
        machine.frames.pop(0)
        before = fields(machine)
        built(machine, "next", (("ref", 17), YES), ())
        before["heap"][17] = ("iter", NONE, 0, -1)
        before["frames"].insert(0, ("default", YES))
        raised(self, machine, before, 12, "")

    def test_next_of_generators_and_instances(self):
        for more in ((), (NO,)):
            machine, box = new_machine("op_next")
            machine.heap.append(PAUSED)
            generator = ("ref", len(machine.heap) - 1)
            frames = [("default", value) for value in more] + [RET]
            for it, control in (
                    (generator, ("resume", generator[1], "next", NONE)),
                    (box, ("call", member_of(machine, box, "op_next"), (box,), ()))):
                machine.frames[:] = [RET]
                expected = fields(machine)
                built(machine, "next", (it,) + more, ())
                expected.update(control=control, frames=frames)
                self.assertEqual(fields(machine), expected)

    def test_next_refused(self):
        heap, kinds = all_kinds()
        for value, kind in kinds:
            if kind in ("iterator", "generator"):
                continue
            for more in ((), (NONE,)):
                machine = machine_of(list(heap), [RET])
                before = fields(machine)
                built(machine, "next", (value,) + more, ())
                before["frames"] = [("default", NONE) for _ in more] + [RET]
                raised(self, machine, before, 10, kind + " is no iterator")

    def test_send_and_close(self):
        for state in ("new", "paused", "running", "over"):
            machine = machine_of(start_heap(()) + [("gen", "g", state, ())], [RET], active=60)
            for name, args, control in (
                    ("send", (YES,), ("resume", 17, "send", YES)), ("send", (NONE,), ("resume", 17, "send", NONE)),
                    ("close", (), ("resume", 17, "close", NONE))):
                before = fields(machine)
                built(machine, "gen." + name, (("ref", 17),) + args, ())
                before["control"] = control
                self.assertEqual(fields(machine), before)


class Gathering(unittest.TestCase):
    def test_iterators_and_generators(self):
        for kind in ("list", "tuple"):
            for found in (("iter", ("text", "ab"), 1, -1), PAUSED):
                machine = machine_of(start_heap(()) + [found], [RET])
                before = fields(machine)
                self.assertIsNone(built(machine, kind, refs(17), ()))
                settled(self, machine, before, ("ref", 17), frames=[("gather1", kind), RET])

    def test_instances(self):
        for kind in ("list", "tuple"):
            machine, box = new_machine("op_iter", "op_next")
            before = fields(machine)
            built(machine, kind, (box,), ())
            before["frames"] = [("want", "iterator"), ("gather1", kind), RET]
            before["control"] = ("call", member_of(machine, box, "op_iter"), (box,), ())
            self.assertEqual(fields(machine), before)
            machine, box = new_machine("op_next")
            before = fields(machine)
            built(machine, kind, (box,), ())
            settled(self, machine, before, box, frames=[("gather1", kind), RET])

    def test_instances_that_cannot_be_iterated(self):
        machine, box = new_machine("op_len")
        before = fields(machine)
        built(machine, "list", (box,), ())
        before["frames"].insert(0, ("gather1", "list"))
        raised(self, machine, before, 10, "Box cannot be iterated")

    def test_the_iterator_comes(self):
        machine = machine_of(start_heap(()) + [("iter", ("text", "ab"), 0, -1), PAUSED], [RET])
        machine.control = ("value", ("ref", 17))
        before = fields(machine)
        self.assertIsNone(meet_gather1(machine, ("gather1", "tuple")))
        settled(self, machine, before, ("text", "a"), frames=[("gather", "tuple", ("ref", 17), ()), RET],
                heap=before["heap"][:17] + [("iter", ("text", "ab"), 1, -1), PAUSED])
        machine.frames[:] = [RET]
        machine.control = ("value", ("ref", 18))
        before = fields(machine)
        meet_gather1(machine, ("gather1", "list"))
        before["frames"].insert(0, ("gather", "list", ("ref", 18), ()))
        before["control"] = ("resume", 18, "next", NONE)
        self.assertEqual(fields(machine), before)

    def test_no_iterator_comes(self):
        machine, box = new_machine()
        for control in (("leave", ("raise", box)), ("leave", ("return", NONE))):
            machine.control = control
            before = fields(machine)
            meet_gather1(machine, ("gather1", "list"))
            self.assertEqual(fields(machine), before)

    def test_an_element_comes(self):
        machine, box = new_machine("op_next")
        machine.control = ("value", YES)
        before = fields(machine)
        self.assertIsNone(meet_gather(machine, ("gather", "list", box, ints(1))))
        before["frames"].insert(0, ("gather", "list", box, ints(1) + (YES,)))
        before["control"] = ("call", member_of(machine, box, "op_next"), (box,), ())
        self.assertEqual(fields(machine), before)

    def test_the_end_comes(self):
        for kind in ("list", "tuple"):
            for got in ((), ints(1, 2), (NONE,) * 1000):
                machine = machine_of(start_heap(()) + [("class", "Mine", 12, ())], [RET])
                for k in (12, 17):
                    machine.heap.append(("inst", k, ()))
                    machine.control = ("leave", ("raise", ("ref", len(machine.heap) - 1)))
                    before = fields(machine)
                    meet_gather(machine, ("gather", kind, ("ref", 5), got))
                    settled(self, machine, before, ("ref", len(before["heap"])), heap=before["heap"] + [(kind, got)])

    def test_another_raise_goes_on(self):
        machine, box = new_machine()
        machine.heap.append(("inst", 13, ()))
        for signal in (("raise", box), ("raise", ("ref", len(machine.heap) - 1)), ("return", NONE), ("break",)):
            machine.control = ("leave", signal)
            before = fields(machine)
            meet_gather(machine, ("gather", "list", box, ints(1)))
            self.assertEqual(fields(machine), before)

    def test_a_thousand(self):
        machine = machine_of(start_heap(()) + [("iter", ("span", 0, 5), 0, -1)], [RET])
        machine.control = ("value", YES)
        before = fields(machine)
        meet_gather(machine, ("gather", "list", ("ref", 17), (NONE,) * 999))
        settled(self, machine, before, ("int", 0), frames=[("gather", "list", ("ref", 17), (NONE,) * 999 + (YES,)), RET],
                heap=before["heap"][:17] + [("iter", ("span", 0, 5), 1, -1)])
        machine.frames[:] = [RET]
        before = fields(machine)
        meet_gather(machine, ("gather", "list", ("ref", 17), (NONE,) * 1000))
        raised(self, machine, before, *TOO_LARGE)

    def test_from_the_beginning_to_the_end(self):
        for what, expected in ((("text", "a b\n"), texts("a", " ", "b", "\n")), (("span", 3, 6), ints(3, 4, 5))):
            for kind in ("list", "tuple"):
                machine = machine_of(start_heap(()) + [("iter", what, 1, -1)])
                built(machine, kind, refs(17), ())
                while machine.frames:
                    frame = machine.frames.pop(0)
                    if frame[0] == "gather1":
                        meet_gather1(machine, frame)
                    else:
                        meet_gather(machine, frame)
                self.assertEqual(machine.control[0], "value")
                self.assertEqual(machine.heap[machine.control[1][1]], (kind, expected[1:]))


if __name__ == "__main__":
    unittest.main()
