import unittest

from pyhold.core import start_heap
from pyhold.generators import advance, give, iterate, resume
from tests.heaps import EDGE, NO, NONE, YES, all_kinds, ints, put, texts
from tests.machines import FUNCTION, fields, machine_of, member_of, new_machine, raised, settled, with_class

KEPT = (("drop",), ("rest", (), 17), ("body", "h", 3))
BEGIN = (("begin", (("pass", 1),), 18),)
PRESENT = [("ret",), ("genbody", 99, "far", 1, "next")]


def machine_with(state, frames, active=2, **others):
    """A machine with a generator, whose number is 17."""
    heap = start_heap(()) + [("gen", "g", state, frames)]
    return machine_of(heap, PRESENT, active=active, out="a\n", here="f", line=5)


class Resume(unittest.TestCase):
    def check(self, state, frames, how, value, control):
        machine = machine_with(state, frames)
        expected = fields(machine)
        self.assertIsNone(resume(machine, 17, how, value))
        expected["frames"] = list(frames) + [("genbody", 17, "f", 5, how)] + PRESENT
        expected["heap"][17] = ("gen", "g", "running", ())
        expected["active"] = 3
        expected["here"] = "g"
        expected["control"] = control
        self.assertEqual(fields(machine), expected)

    def refused(self, state, frames, how, value, n, words, active=2):
        machine = machine_with(state, frames, active)
        before = fields(machine)
        resume(machine, 17, how, value)
        raised(self, machine, before, n, words)

    def test_next(self):
        for state, frames in (("new", BEGIN), ("paused", KEPT)):
            self.check(state, frames, "next", NONE, ("value", NONE))
            self.check(state, frames, "next", YES, ("value", NONE))

    def test_send(self):
        for value in (NONE, YES, ("ref", 17), ("text", "a")):
            self.check("paused", KEPT, "send", value, ("value", value))
        self.check("new", BEGIN, "send", NONE, ("value", NONE))

    def test_send_to_a_new_one(self):
        for value in (YES, NO, ("int", 0), ("ref", 17), ("text", "")):
            self.refused("new", BEGIN, "send", value, 10, "generator has not begun")

    def test_close(self):
        for value in (NONE, YES):
            self.check("paused", KEPT, "close", value, ("leave", ("return", NONE)))

    def test_close_a_new_one(self):
        for active in (0, 59, 60):
            machine = machine_with("new", BEGIN, active)
            before = fields(machine)
            resume(machine, 17, "close", NONE)
            settled(self, machine, before, heap=before["heap"][:17] + [("gen", "g", "over", ())])

    def test_running(self):
        for how in ("next", "send", "close"):
            for active in (2, 60):
                for value in (NONE, YES):
                    self.refused("running", (), how, value, 11, "generator is running", active)

    def test_over(self):
        for active in (2, 60):
            for how, value in (("next", NONE), ("send", NONE), ("send", YES)):
                self.refused("over", (), how, value, 12, "", active)
            machine = machine_with("over", (), active)
            before = fields(machine)
            resume(machine, 17, "close", YES)
            settled(self, machine, before)

    def test_too_many_calls(self):
        for state, frames in (("new", BEGIN), ("paused", KEPT)):
            for how in ("next", "send"):
                self.refused(state, frames, how, NONE, 14, "too many calls", 60)
        self.refused("paused", KEPT, "close", NONE, 14, "too many calls", 60)
        self.refused("paused", KEPT, "send", YES, 14, "too many calls", 60)
        self.refused("new", BEGIN, "send", YES, 10, "generator has not begun", 60)

    def test_the_last_call(self):
        machine = machine_with("paused", KEPT, 59)
        resume(machine, 17, "next", NONE)
        self.assertEqual((machine.active, machine.control), (60, ("value", NONE)))

    def test_the_lists_are_kept(self):
        machine = machine_with("paused", KEPT)
        heap, frames = machine.heap, machine.frames
        resume(machine, 17, "next", NONE)
        self.assertIs(machine.heap, heap)
        self.assertIs(machine.frames, frames)


class Give(unittest.TestCase):
    def machine(self, frames, how):
        heap = start_heap(()) + [("gen", "g", "running", ()), ("gen", "other", "running", ())]
        rows = list(frames) + [("genbody", 17, "f", 5, how), ("ret",), ("genbody", 18, "far", 1, "close")]
        return machine_of(heap, rows, active=3, out="a\n", here="g", line=9)

    def test_a_value(self):
        for how in ("next", "send"):
            for frames in (KEPT, KEPT[:1], ()):
                for value in (NONE, ("text", "a"), ("ref", 17)):
                    machine = self.machine(frames, how)
                    before = fields(machine)
                    self.assertIsNone(give(machine, value))
                    heap = list(before["heap"])
                    heap[17] = ("gen", "g", "paused", frames)
                    settled(
                        self, machine, before, value, heap=heap, active=2, here="f", line=5,
                        frames=[("ret",), ("genbody", 18, "far", 1, "close")])

    def test_after_close(self):
        machine = self.machine(KEPT, "close")
        before = fields(machine)
        give(machine, YES)
        before["heap"][17] = ("gen", "g", "over", ())
        before.update(
            active=2, here="f", line=5, frames=[("ret",), ("genbody", 18, "far", 1, "close")])
        raised(self, machine, before, 13, "generator went on after close")

    def test_there_and_back(self):
        machine = machine_with("paused", KEPT)
        before = fields(machine)
        resume(machine, 17, "next", NONE)
        give(machine, YES)
        settled(self, machine, before, YES)

    def test_the_lists_are_kept(self):
        machine = self.machine(KEPT, "next")
        heap, frames = machine.heap, machine.frames
        give(machine, NONE)
        self.assertIs(machine.heap, heap)
        self.assertIs(machine.frames, frames)


class Iterate(unittest.TestCase):
    def check_new(self, machine, value, size):
        before = fields(machine)
        self.assertIsNone(iterate(machine, value))
        settled(
            self, machine, before, ("ref", len(before["heap"])),
            heap=before["heap"] + [("iter", value, 0, size)])

    def test_rows(self):
        for data in ([], [1, 2], (), (1,), "", "a b\n", range(0), range(3, 9)):
            machine = machine_of(frames=PRESENT)
            self.check_new(machine, put(machine.heap, data), -1)

    def test_dicts(self):
        for data in ({}, {1: 2}, {"a": 1, "b": 2, "c": 3}):
            machine = machine_of(frames=PRESENT)
            self.check_new(machine, put(machine.heap, data), len(data))

    def test_iterators_and_generators(self):
        for found in (("iter", NONE, 0, -1), ("gen", "g", "over", ()), ("gen", "g", "running", ())):
            machine = machine_of(frames=PRESENT)
            machine.heap.append(found)
            before = fields(machine)
            iterate(machine, ("ref", 17))
            settled(self, machine, before, ("ref", 17))

    def test_instances(self):
        for names in (("op_iter",), ("op_next", "op_iter"), ("op_iter", "op_next")):
            machine, box = new_machine(*names)
            before = fields(machine)
            iterate(machine, box)
            before["frames"].insert(0, ("want", "iterator"))
            before["control"] = ("call", member_of(machine, box, "op_iter"), (box,), ())
            self.assertEqual(fields(machine), before)

    def test_an_instance_with_op_next_alone(self):
        machine, box = new_machine("op_len", "op_next")
        before = fields(machine)
        iterate(machine, box)
        settled(self, machine, before, box)

    def test_an_op_iter_that_is_no_function(self):
        machine, box = new_machine("op_next")
        members = machine.heap[box[1] - 1][3]
        machine.heap[box[1] - 1] = ("class", "Box", -1, members + (("op_iter", NONE),))
        before = fields(machine)
        iterate(machine, box)
        settled(self, machine, before, box)

    def test_anything_else(self):
        heap, kinds = all_kinds()
        for value, kind in kinds:
            if kind in ("str", "range", "list", "tuple", "dict", "iterator", "generator"):
                continue
            machine = machine_of(list(heap), PRESENT)
            before = fields(machine)
            iterate(machine, value)
            raised(self, machine, before, 10, kind + " cannot be iterated")

    def test_a_class_with_methods(self):
        machine, box = new_machine("op_iter", "op_next")
        before = fields(machine)
        iterate(machine, ("ref", box[1] - 1))
        raised(self, machine, before, 10, "class cannot be iterated")


class Advance(unittest.TestCase):
    def elements(self, machine, it):
        """All elements, each checked; then that there are none any more."""
        found = []
        while True:
            before = fields(machine)
            _, what, place, size = machine.heap[it[1]]
            self.assertIsNone(advance(machine, it))
            if machine.control[0] != "value":
                break
            heap = list(before["heap"])
            heap[it[1]] = ("iter", what, place + 1, size)
            settled(self, machine, before, machine.control[1], heap=heap)
            found.append(machine.control[1])
        for _ in range(2):
            before["heap"][it[1]] = ("iter", NONE, 0, -1)
            raised(self, machine, before, 12, "")
            before = fields(machine)
            advance(machine, it)
        return found

    def iterator(self, data):
        machine = machine_of(frames=PRESENT)
        value = put(machine.heap, data)
        iterate(machine, value)
        return machine, value, machine.control[1]

    def test_rows(self):
        for data, expected in (
                ([], ()), ((), ()), ("", ()), (range(5, 5), ()), ([3, 1, 2], ints(3, 1, 2)), ((3, 1), ints(3, 1)),
                ("a b\n", texts("a", " ", "b", "\n")), (range(-2, 2), ints(-2, -1, 0, 1)), ({}, ()),
                ({"b": 1, "a": 2, 3: 4}, texts("b", "a") + ints(3))):
            machine, _, it = self.iterator(data)
            self.assertEqual(tuple(self.elements(machine, it)), expected)

    def test_items_stay_the_objects_that_they_are(self):
        machine, value, it = self.iterator([[1], [2]])
        self.assertEqual(tuple(self.elements(machine, it)), machine.heap[value[1]][1])

    def test_long_spans(self):
        machine, _, it = self.iterator(range(1 - EDGE, EDGE - 1))
        advance(machine, it)
        self.assertEqual(machine.control, ("value", ("int", 1 - EDGE)))
        machine.heap[it[1]] = ("iter", ("span", 1 - EDGE, EDGE - 1), 2 * EDGE - 3, -1)
        advance(machine, it)
        self.assertEqual(machine.control, ("value", ("int", EDGE - 2)))
        advance(machine, it)
        self.assertEqual(machine.control[0], "leave")

    def test_a_list_as_it_is_then(self):
        machine, value, it = self.iterator([1])
        advance(machine, it)
        machine.heap[value[1]] = ("list", ints(7, 8, 9))
        advance(machine, it)
        self.assertEqual(machine.control, ("value", ("int", 8)))
        machine.heap[value[1]] = ("list", ints(7))
        before = fields(machine)
        advance(machine, it)
        before["heap"][it[1]] = ("iter", NONE, 0, -1)
        raised(self, machine, before, 12, "")
        machine.heap[value[1]] = ("list", ints(7, 8, 9))
        advance(machine, it)
        self.assertEqual(machine.control[0], "leave")

    def test_dicts_that_have_changed(self):
        for changed in ((), ((NONE, NONE), (YES, NONE), (NO, NONE))):
            machine, value, it = self.iterator({1: 2, 2: 3})
            for many in range(3):
                entries = machine.heap[value[1]]
                machine.heap[value[1]] = ("dict", changed)
                before = fields(machine)
                advance(machine, it)
                raised(self, machine, before, 13, "dict changed")
                machine.heap[value[1]] = entries
                advance(machine, it)
                self.assertEqual(machine.control[0], "value" if many < 2 else "leave")

    def test_other_entries_of_the_same_number(self):
        machine, value, it = self.iterator({1: 2, 2: 3})
        machine.heap[value[1]] = ("dict", ((("int", 5), NONE), (("int", 6), NONE)))
        self.assertEqual(tuple(self.elements(machine, it)), ints(5, 6))
        machine.heap[value[1]] = ("dict", ())
        before = fields(machine)
        advance(machine, it)
        raised(self, machine, before, 12, "")

    def test_generators(self):
        for state, frames in (("new", BEGIN), ("paused", KEPT), ("running", ()), ("over", ())):
            machine = machine_with(state, frames, 60)
            before = fields(machine)
            advance(machine, ("ref", 17))
            before["control"] = ("resume", 17, "next", NONE)
            self.assertEqual(fields(machine), before)

    def test_instances(self):
        for names in (("op_next",), ("op_iter", "op_next")):
            machine, box = new_machine(*names)
            before = fields(machine)
            advance(machine, box)
            before["control"] = ("call", member_of(machine, box, "op_next"), (box,), ())
            self.assertEqual(fields(machine), before)

    def test_anything_else(self):
        heap, kinds = all_kinds()
        for value, kind in kinds:
            if kind not in ("iterator", "generator"):
                machine = machine_of(list(heap), PRESENT)
                before = fields(machine)
                advance(machine, value)
                raised(self, machine, before, 10, kind + " is no iterator")

    def test_an_instance_that_is_no_iterator(self):
        machine, box = new_machine("op_iter", "op_len")
        machine.heap[box[1]] = ("inst", box[1] - 1, (("op_next", ("ref", 17)),))
        before = fields(machine)
        advance(machine, box)
        raised(self, machine, before, 10, "Box is no iterator")
        other = with_class(machine.heap, "op_next")
        self.assertEqual(machine.heap[other[1] - 2], FUNCTION)
        before = fields(machine)
        advance(machine, ("ref", other[1] - 1))
        raised(self, machine, before, 10, "class is no iterator")


if __name__ == "__main__":
    unittest.main()
