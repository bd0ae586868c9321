"""One thing of each kind that a held run is made of, and machines for held runs."""

from pyhold.compiling import compile_text
from pyhold.fields import CONTROLS, OBJECTS
from pyhold.frames import FIELDS
from pyhold.machine import start, step
from tests.heaps import NONE, YES
from tests.steps import run_steps

# A field for each letter, and the numbers of objects in it, in their order.
LETTERS = {
    "v": (("ref", 30), (30,)),
    "V": ((("ref", 31), NONE, ("ref", 0), ("ref", 31)), (31, 0, 31)),
    "W": (((("ref", 32), ("ref", 33)), (NONE, YES), (("int", 5), ("ref", 34))), (32, 33, 34)),
    "X": ((("a", ("ref", 35)), ("b", YES), ("c", ("ref", 36))), (35, 36)),
    "t": (("do", 3, ("const", ("int", 37))), ()),
    "a": (38, (38,)),
    "b": (39, (39,)),
    "n": (-40, ()),
    "x": ("41", ()),
    "s": (("raise", ("ref", 42)), (42,)),
    "F": ((("bin2", "+", ("ref", 43)), ("body", "f", 44), ("begin", ("pass", 1), 45)), (43, 45)),
}

VALUES = (
    (NONE, [0]), (("bool", False), [1]), (YES, [2]), (("int", 0), [3, 0]), (("int", -1), [3, 1]),
    (("int", 64), [3, 128, 1]), (("text", ""), [4, 0]), (("text", "a\nb"), [4, 3, 65, 0, 66]),
    (("span", -3, 0), [5, 5, 0]), (("built", "len"), [6, 3, 76, 69, 78]), (("host", "ask"), [7, 3, 65, 83, 75]),
    (("ref", 0), [8, 0]), (("ref", 300), [8, 172, 2]))

TREES = (
    ((), [0, 0]), ((1, "a"), [0, 2, 2, 2, 1, 1, 65]), ("", [1, 0]), ("hi", [1, 2, 72, 73]), (0, [2, 0]), (-7, [2, 13]),
    (False, [3]), (True, [4]), (((), (True,)), [0, 2, 0, 0, 0, 1, 4]))

SIGNALS = ((), ("break",), ("continue",), ("return", YES), ("raise", ("ref", 5)))

PROGRAM = (
    "class Box:\n    def op_init(self, n, more=()):\n        self.n = n\n"
    "    def op_add(self, other):\n        return Box(self.n + other)\n"
    "def gen(n):\n    try:\n        for k in range(n):\n            got = yield k\n            print('got', got)\n"
    "    finally:\n        print('last')\n"
    "g = gen(5)\nprint(next(g), g.send('a'))\nbox = Box(3) + 4\nring = [box]\nring.append(ring)\n"
    "table = {1: ring, 'a': (box, {}), (1, None): iter('xyz')}\nf = ring.append\n"
    "def add(a, b=[1]):\n    b.append(a)\n    return ask(a, b)\n"
    "try:\n    print(add(len(ring)))\n    x\nexcept NameError as e:\n    print(add(3, b=[ask('e')]))\n"
    "finally:\n    g.close()\nprint(list(table), [box.n, True, range(3)])\n")


def sample(kind, letters):
    """An object, a frame or a control, and its references."""
    references = []
    fields = []
    for letter in letters:
        field, found = LETTERS[letter]
        fields.append(field)
        references.extend(found)
    return (kind,) + tuple(fields), references


def samples(table):
    return [sample(kind, letters) for kind, letters in table.items()]


def all_samples():
    return samples(OBJECTS) + samples(FIELDS) + samples(CONTROLS)


def stepped(text, many, hosts=("ask",)):
    """The machine of a program behind so many steps."""
    machine = start(compile_text(text), hosts)
    for _ in range(many):
        step(machine)
    return machine


def some_machines():
    """Machines of a program that comes to most kinds of objects, frames and controls."""
    machines = [stepped(PROGRAM, many) for many in range(0, 420, 7)]
    replies = ([1, {"a": (2,)}], "more", None)
    for many in range(4):
        machines.append(run_steps(PROGRAM, ("ask",), replies[:many])[0])
    return machines
