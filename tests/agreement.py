"""Checks that the machine and the plain meaning agree (e9)."""

from pyhold.compiling import compile_text
from pyhold.faults import new_fault
from pyhold.machine import Machine, at_rest, start, step
from pyhold.meaning import has_yield, run_plain
from pyhold.reach import same_run


def by_machine(code, hosts, replies):
    """The machine at rest behind these replies, and how many were taken."""
    machine = start(code, hosts)
    used = 0
    while True:
        while step(machine):
            pass
        if machine.control[0] != "ask" or used == len(replies):
            return machine, used
        kind, what = replies[used]
        used += 1
        if kind == "value":
            machine.control = ("value", what)
        else:
            machine.control = ("leave", ("raise", new_fault(machine.heap, 16, what)))


def rest(control, heap):
    """A machine that has nothing but a control and what can be reached from it and the module."""
    return Machine(control, [], heap, "", 0, "", 1, 0)


class Agreement:
    """For a TestCase."""

    def agree(self, text, hosts=("ask",), replies=(), left=20000):
        """Checks a program without yield; tells if its plain meaning was not too deep or too long."""
        code = compile_text(text)
        self.assertIs(has_yield(code), False)
        outcome, heap, out, used = run_plain(code, hosts, replies, 150, left)
        if outcome[0] in ("deep", "long"):
            return False
        machine, taken = by_machine(code, hosts, replies)
        self.assertTrue(at_rest(machine))
        self.assertEqual((machine.out, taken), (out, used), text)
        control = outcome
        if outcome[0] == "raise":
            control = ("leave", outcome)
        self.assertIn(control[0], ("done", "leave", "ask"), text)
        if control[0] == "ask":
            self.assertEqual(used, len(replies))
        else:
            self.assertEqual((machine.frames, machine.active), ([], 0))
        self.assertTrue(same_run(rest(control, heap), rest(machine.control, machine.heap)), text)
        return True
