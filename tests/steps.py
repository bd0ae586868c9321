"""Single steps of machines, and whole runs of programs by machines."""

from pyhold.compiling import compile_text
from pyhold.core import start_heap
from pyhold.data import put_data, take_data
from pyhold.faults import new_fault
from pyhold.machine import at_rest, start, step
from pyhold.meaning import has_yield
from pyhold.showing import show
from tests.agreement import Agreement
from tests.machines import fields, machine_of

# The number of the scope that stands behind the objects at the beginning, and its object.
ENV = 17
SCOPE = ("scope", (("a", ("int", 5)), ("b", ("text", "x"))), ("a", "b", "c"), ("g",), 0, False)

UNDER = (("ret",), ("body", "far", 2))


class Steps:
    """For a TestCase: what one step does, and that it does nothing else."""

    def machine(self, control, frames=(), objects=()):
        heap = start_heap(("ask",)) + [SCOPE] + list(objects)
        machine = machine_of(heap, tuple(frames) + UNDER, active=4, out="a\n", here="f", line=5)
        machine.control = control
        return machine

    def after(self, control, frames, objects):
        """The machine after one step, and the fields that it had."""
        machine = self.machine(control, frames, objects)
        before = fields(machine)
        heap, rows = machine.heap, machine.frames
        self.assertIs(step(machine), True)
        self.assertIs(machine.heap, heap)
        self.assertIs(machine.frames, rows)
        return machine, before

    def goes(self, control, frames, came, put=(), objects=(), made=(), changed=(), **others):
        """A step leads to the control `came`, with the frames `put` in place of `frames`,
        with new objects, and with other objects in place of some (pairs of a number and an object)."""
        machine, before = self.after(control, frames, objects)
        expected = dict(before)
        expected.update(others)
        expected["control"] = came
        expected["frames"] = list(put) + list(UNDER)
        expected["steps"] = before["steps"] + 1
        expected["heap"] = before["heap"] + list(made)
        for k, found in changed:
            expected["heap"][k] = found
        self.assertEqual(fields(machine), expected)

    def raises(self, control, frames, n, words, put=(), objects=(), **others):
        """A step raises a new exception of the class n."""
        size = ENV + 1 + len(objects)
        made = (("tuple", (("text", words),)), ("inst", n, (("args", ("ref", size)),)))
        came = ("leave", ("raise", ("ref", size + 1)))
        self.goes(control, frames, came, put, objects, made, **others)


def run_steps(text, hosts=(), replies=(), most=200000):
    """The machine of a program when it rests; the replies are data, or exceptions of Python
    for the words of a HostError. What was asked is told as well."""
    machine = start(compile_text(text), hosts)
    asked = []
    waiting = list(replies)
    while True:
        while step(machine):
            if machine.steps > most:
                raise AssertionError("the program goes on and on")
        assert at_rest(machine)
        if machine.control[0] != "ask":
            return machine, asked
        args = [repr(take_data(machine.heap, value)) for value in machine.control[2]]
        asked.append(machine.control[1] + "(" + ", ".join(args) + ")")
        if not waiting:
            return machine, asked
        reply = waiting.pop(0)
        if isinstance(reply, Exception):
            value = new_fault(machine.heap, 16, str(reply))
            machine.control = ("leave", ("raise", value))
        else:
            machine.control = ("value", put_data(machine.heap, reply))


def told(machine):
    """How a machine rests: "done", or the class and the text of the exception, or "ask"."""
    if machine.control == ("done",):
        return "done"
    if machine.control[0] == "ask":
        return "ask"
    _, k, members = machine.heap[machine.control[1][1][1]]
    items = machine.heap[dict(members)["args"][1]][1]
    words = ", ".join(show(machine.heap, item)[1][1] for item in items)
    return machine.heap[k][1] + ": " + words


class Programs(Agreement):
    """For a TestCase: what whole programs put out and how they end, by a machine,
    and, if they have no yield, by the plain meaning as well."""

    def gives(self, text, *lines, ends="done", hosts=(), replies=()):
        machine, _ = run_steps(text, hosts, replies)
        self.assertEqual(machine.out.split("\n")[:-1], list(lines), text)
        self.assertEqual(told(machine), ends, text)
        self.check_plain(text, hosts, replies)
        return machine

    def asks(self, text, *names, ends="done"):
        """The functions w0 to w9 of the host are asked in this order; each gives its number."""
        hosts = tuple(f"w{k}" for k in range(10))
        replies = [int(name[1]) for name in names]
        machine, asked = run_steps(text, hosts, replies)
        self.assertEqual([row.split("(")[0] for row in asked], list(names), text)
        self.assertEqual(told(machine), ends, text)
        self.check_plain(text, hosts, replies)

    def check_plain(self, text, hosts, replies):
        if has_yield(compile_text(text)) or any(isinstance(reply, list) for reply in replies):
            return
        plain = []
        for reply in replies:
            if isinstance(reply, Exception):
                plain.append(("raise", str(reply)))
            else:
                plain.append(("value", put_data([], reply)))
        self.agree(text, hosts, tuple(plain))
