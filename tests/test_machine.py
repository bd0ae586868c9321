"""Machines: how they begin and rest, what a step is, and what frames let pass (m1, m7, c8, c10)."""

import unittest

from pyhold.compiling import compile_text
from pyhold.core import start_heap
from pyhold.frames import FIELDS
from pyhold.machine import Machine, at_rest, start, step
from tests.heaps import NONE, YES
from tests.machines import fields, machine_of
from tests.steps import ENV, Steps, run_steps

# A field for each letter, as frames have them.
SAMPLES = {
    "v": YES, "V": (YES, NONE), "W": ((YES, NONE),), "X": (("a", YES),), "t": (("pass", 3),), "a": ENV,
    "b": -1, "n": 7, "x": "bool", "s": (),
}

SIGNALS = (("break",), ("continue",), ("return", YES), ("raise", ("ref", 18)), ("raise", ("ref", 19)))

# The signals, by their places above, for which kinds of frames have a rule.
RULES = {
    "while2": (0, 1), "for3": (4,), "for5": (0, 1), "catch": (3, 4), "final": (0, 1, 2, 3, 4), "body": (2,),
    "genbody": (2, 4), "gather": (4,), "default": (4,)}


def sample(kind):
    return (kind,) + tuple(SAMPLES[letter] for letter in FIELDS[kind])


class Start(unittest.TestCase):
    def test_fields(self):
        code = compile_text("a = 1\n")
        machine = start(code, ("ask", "tell"))
        self.assertIsInstance(machine, Machine)
        self.assertEqual(fields(machine), {
            "control": ("exec", code, 0), "frames": [], "heap": start_heap(("ask", "tell")), "out": "",
            "active": 0, "here": "module", "line": 1, "steps": 0})
        self.assertEqual(dict(machine.heap[0][1])["tell"], ("host", "tell"))

    def test_of_its_own(self):
        one, other = start((), ()), start((), ())
        self.assertIsNot(one.heap, other.heap)
        self.assertIsNot(one.frames, other.frames)

    def test_the_empty_program(self):
        machine = start((), ())
        self.assertIs(at_rest(machine), False)
        self.assertIs(step(machine), True)
        self.assertEqual((machine.control, machine.steps, machine.line), (("done",), 1, 1))
        self.assertIs(at_rest(machine), True)


class Rest(Steps, unittest.TestCase):
    def test_what_rests(self):
        resting = (
            (("ask", "ask", ()), ()), (("ask", "ask", (YES,)), (("ret",),)), (("done",), ()),
            (("leave", ("raise", ("ref", 18))), ()))
        for control, frames in resting:
            machine = machine_of(frames=frames)
            machine.control = control
            before = fields(machine)
            self.assertIs(at_rest(machine), True)
            for _ in range(3):
                self.assertIs(step(machine), False)
                self.assertEqual(fields(machine), before)

    def test_what_does_not_rest(self):
        for control in (("done",), ("leave", ("raise", ("ref", 18))), ("value", YES), ("exec", (), 0)):
            self.assertIs(at_rest(self.machine(control)), False)
        for control in (("exec", (), 0), ("eval", ("name", "len"), 0), ("call", ("built", "dict"), (), ())):
            machine = machine_of()
            machine.control = control
            self.assertIs(at_rest(machine), False)
            self.assertIs(step(machine), True)
            self.assertEqual(machine.steps, 8)

    def test_programs_rest_at_their_end_and_stay(self):
        for text, control in (("a = 1\n", "done"), ("raise KeyError(1)\n", "leave"), ("ask(1)\n", "ask")):
            machine, _ = run_steps(text, ("ask",))
            self.assertEqual(machine.control[0], control)
            before = fields(machine)
            self.assertIs(step(machine), False)
            self.assertEqual(fields(machine), before)


class Passing(Steps, unittest.TestCase):
    """What frames have no rule for goes on, and they are gone: one for each step."""

    def test_signals(self):
        heap = (("inst", 7, ()), ("inst", 12, ()))
        for kind in FIELDS:
            for at, signal in enumerate(SIGNALS):
                if at not in RULES.get(kind, ()) and kind not in ("body", "genbody"):
                    control = ("leave", signal)
                    self.goes(control, (sample(kind),), control, objects=heap)

    def test_all_kinds_without_done(self):
        waiting_for_done = (
            "rest while2 for4 for5 class2 catch handling final after unpack body genbody").split()
        for kind in FIELDS:
            if kind not in waiting_for_done:
                self.goes(("done",), (sample(kind),), ("done",))

    def test_one_frame_a_step(self):
        frames = [sample(kind) for kind in ("drop", "rest", "while1", "match", "after", "handling")]
        machine = self.machine(("leave", ("break",)), frames)
        for left in range(len(frames) - 1, -1, -1):
            step(machine)
            self.assertEqual(machine.control, ("leave", ("break",)))
            self.assertEqual(len(machine.frames), left + 2)

    def test_steps_are_counted(self):
        machine, _ = run_steps("a = 1\n")
        # exec, eval, put, store
        self.assertEqual(machine.steps, 4)
        machine, _ = run_steps("a = 1\nb = a + 1\n")
        # the same and rest; exec, eval, eval, bin1, eval, bin2, put, store
        self.assertEqual(machine.steps, 13)
        machine, _ = run_steps("raise 1 // 0\n")
        # exec, eval, eval, bin1, eval, bin2, throw
        self.assertEqual(machine.steps, 7)


class NewObjects(Steps, unittest.TestCase):
    def test_an_operation_that_is_refused(self):
        self.raises(("value", ("int", 0)), (("bin2", "//", ("int", 1)),), 3, "division by zero")

    def test_an_operation_that_gives_a_value(self):
        self.goes(("value", ("int", 2)), (("bin2", "//", ("int", 7)),), ("value", ("int", 3)))


if __name__ == "__main__":
    unittest.main()
