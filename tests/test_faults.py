import unittest

from pyhold.core import CLASSES, start_heap
from pyhold.faults import fail, new_fault, settle
from tests.heaps import NONE, ints
from tests.machines import fields, machine_of, raised, settled


class NewFault(unittest.TestCase):
    def test_two_objects(self):
        heap = start_heap(())
        before = list(heap)
        self.assertEqual(new_fault(heap, 10, "a b\n"), ("ref", 18))
        self.assertEqual(heap, before + [
            ("tuple", (("text", "a b\n"),)), ("inst", 10, (("args", ("ref", 17)),))])

    def test_each_class(self):
        heap = start_heap(())
        for n in range(1, len(CLASSES) + 1):
            k = len(heap)
            self.assertEqual(new_fault(heap, n, ""), ("ref", k + 1))
            self.assertEqual(heap[k:], [("tuple", (("text", ""),)), ("inst", n, (("args", ("ref", k)),))])

    def test_a_class_of_a_program(self):
        heap = start_heap(()) + [("class", "Mine", 11, ())]
        self.assertEqual(new_fault(heap, 17, "w"), ("ref", 19))
        self.assertEqual(heap[19], ("inst", 17, (("args", ("ref", 18)),)))


class Control(unittest.TestCase):
    def test_fail(self):
        for n, words in ((3, "division by zero"), (12, ""), (15, "too large")):
            machine = machine_of(frames=[("ret",)], active=2, out="a\n", here="f", line=5)
            before = fields(machine)
            self.assertIsNone(fail(machine, n, words))
            raised(self, machine, before, n, words)

    def test_the_lists_are_kept(self):
        machine = machine_of()
        heap, frames = machine.heap, machine.frames
        fail(machine, 10, "w")
        self.assertIs(machine.heap, heap)
        self.assertIs(machine.frames, frames)

    def test_settle(self):
        for value in (NONE, ints(3)[0], ("ref", 5), ("text", "raise")):
            machine = machine_of(frames=[("ret",)], active=2, out="a\n", here="f", line=5)
            before = fields(machine)
            self.assertIsNone(settle(machine, ("ok", value)))
            settled(self, machine, before, value)

    def test_settle_a_refusal(self):
        machine = machine_of(frames=[("ret",)], active=2, out="a\n", here="f", line=5)
        before = fields(machine)
        settle(machine, ("raise", 6, "index out of range"))
        raised(self, machine, before, 6, "index out of range")


if __name__ == "__main__":
    unittest.main()
