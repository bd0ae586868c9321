"""Held runs: how they are written, and the rules of reading with their places (h9 to h11)."""

import random
import unittest

from pyhold.coding import write_control, write_count, write_frame, write_object, write_string, write_value
from pyhold.core import start_heap
from pyhold.errors import BadNumbers, TooLong
from pyhold.fields import CONTROLS
from pyhold.frames import FIELDS
from pyhold.holding import read_machine, write_machine
from pyhold.machine import Machine, step
from pyhold.reach import renumber, same_run
from tests.heaps import NONE, YES, texts
from tests.machines import fields
from tests.plain_reading import plain_place
from tests.samples import samples as samples_of
from tests.samples import some_machines, stepped
from tests.test_reach import shuffled

MODULE = ("scope", (), (), (), -1, False)


class Parts:
    """The parts of a held run, which can be changed one by one."""

    def __init__(self, heap=None, **others):
        self.taken = 0
        self.steps = 5
        self.out = "ab\n"
        self.active = 3
        self.here = "f"
        self.line = 7
        self.heap = [MODULE] + start_heap(())[1:] if heap is None else heap
        self.control = ("done",)
        self.frames = []
        for name, part in others.items():
            setattr(self, name, part)

    def pieces(self):
        rows = [("mark", [1]), ("taken", write_count(self.taken)), ("steps", write_count(self.steps)),
                ("out", write_string(self.out)), ("active", write_count(self.active)), ("here", write_string(self.here)),
                ("line", write_count(self.line)), ("heap", write_count(len(self.heap)))]
        rows += [(f"heap{k}", write_object(item)) for k, item in enumerate(self.heap)]
        rows += [("control", write_control(self.control)), ("frames", write_count(len(self.frames)))]
        rows += [(f"frames{k}", write_frame(frame)) for k, frame in enumerate(self.frames)]
        return rows

    def numbers(self):
        return [number for _, piece in self.pieces() for number in piece]

    def place(self, name):
        """The index of the first number of a piece."""
        at = 0
        for other, piece in self.pieces():
            if other == name:
                return at
            at += len(piece)
        raise AssertionError(name)

    def machine(self):
        return Machine(
            self.control, list(self.frames), list(self.heap), self.out, self.active, self.here, self.line, self.steps)


def place_of(numbers):
    """The place of the error of reading, or None."""
    before = list(numbers)
    try:
        read_machine(numbers)
    except BadNumbers as error:
        assert numbers == before
        return error.place
    assert numbers == before
    return None


class Writing(unittest.TestCase):
    def test_the_pieces(self):
        parts = Parts(frames=[("ret",), ("body", "g", 300)], control=("leave", ("return", YES)), taken=2)
        self.assertEqual(write_machine(parts.machine(), 2), parts.numbers())
        for machine in some_machines():
            same = renumber(machine)
            parts = Parts(**fields(same), taken=len(machine.out) // 2)
            self.assertEqual(write_machine(machine, len(machine.out) // 2), parts.numbers())

    def test_the_machine_stays(self):
        for machine in some_machines()[::9]:
            before = fields(machine)
            one, other = write_machine(machine, 0), write_machine(machine, 0)
            self.assertEqual(one, other)
            self.assertIsNot(one, other)
            self.assertEqual(fields(machine), before)

    def test_what_does_not_show(self):
        for seed, machine in enumerate(some_machines()):
            self.assertEqual(write_machine(shuffled(machine, seed), 0), write_machine(machine, 0))

    def test_what_shows(self):
        machine = stepped("a = [1]\nprint(a)\nb = a + a\n", 15)
        held = [write_machine(machine, taken) for taken in range(len(machine.out) + 1)]
        for name, other in (("steps", 16), ("out", machine.out + "a"), ("active", 1), ("here", "f"), ("line", 9),
                            ("frames", machine.frames + [("ret",)]), ("control", ("value", YES))):
            changed = dict(fields(machine))
            changed[name] = other
            held.append(write_machine(Machine(**changed), 0))
        self.assertEqual(len({tuple(numbers) for numbers in held}), len(held))

    def test_only_numbers(self):
        for machine in some_machines()[::5]:
            self.assertTrue(all(type(n) is int and 0 <= n <= 255 for n in write_machine(machine, 0)))


class Back(unittest.TestCase):
    def test_machines(self):
        for taken, machine in enumerate(some_machines()):
            taken = min(taken, len(machine.out))
            numbers = write_machine(machine, taken)
            found = read_machine(numbers)
            self.assertIs(type(found), tuple)
            made, count = found
            self.assertEqual(count, taken)
            self.assertEqual(fields(made), fields(renumber(machine)))
            self.assertIs(same_run(made, machine), True)
            self.assertEqual(write_machine(made, taken), numbers)
            step(made)
            self.assertEqual(place_of(numbers), None)

    def test_the_list_is_not_kept(self):
        numbers = write_machine(stepped("a = [1]\n", 9), 0)
        made, _ = read_machine(numbers)
        before = fields(made)
        numbers[5:] = [7] * 100
        self.assertEqual(fields(made), before)

    def test_at_the_bounds(self):
        for parts in (
                Parts(out="x" * 100000), Parts(here="x" * 30), Parts(active=60), Parts(steps=128 ** 40 - 1),
                Parts(line=128 ** 40 - 1), Parts(here=""), Parts(out="", steps=0, line=0, active=0), Parts(taken=3),
                Parts(frames=[("want", "x" * 200)] * 300), Parts(control=("value", ("text", "x" * 1000))),
                Parts(control=("leave", ())), Parts(frames=[("after", ())])):
            self.assertEqual(place_of(parts.numbers()), None)

    def test_what_no_program_leads_to(self):
        heap = Parts().heap
        for control in (("value", ("ref", 0)), ("call", YES, (), ()), ("give", NONE), ("leave", ("raise", NONE))):
            self.assertEqual(place_of(Parts(control=control).numbers()), None)
        same_keys = heap + [("dict", ((YES, NONE), (YES, NONE), (("int", 1), NONE)))]
        self.assertEqual(place_of(Parts(same_keys, control=("value", ("ref", 17))).numbers()), None)
        self.assertEqual(place_of(Parts([("list", ())] * 17).numbers()), None)


class FirstRule(unittest.TestCase):
    """Numbers that cannot stand where they stand."""

    def check(self, numbers, place):
        self.assertEqual(place_of(numbers), place)

    def changed(self, name, numbers, place, parts=None):
        """Other numbers in place of a piece are wrong at this place within them."""
        parts = parts or Parts()
        at = parts.place(name)
        piece = dict(parts.pieces())[name]
        whole = parts.numbers()
        self.check(whole[:at] + numbers + whole[at + len(piece):], at + place)

    def test_the_first_number(self):
        whole = Parts().numbers()
        for number in (0, 2, 129, 255, 256, -1):
            self.check([number] + whole[1:], 0)
            self.check([number], 0)

    def test_counts(self):
        for name in ("taken", "steps", "out", "active", "here", "line", "heap", "frames"):
            self.changed(name, [256], 0)
            self.changed(name, [-1], 0)
            self.changed(name, [128, 0], 1)
            self.changed(name, [255, 128, 0], 2)
            self.changed(name, [128] * 40 + [1], 40)
            self.changed(name, [128] * 40 + [300], 40)
            self.changed(name, [128] * 39 + [0], 39)

    def test_strings(self):
        self.changed("out", write_count(100001), 0)
        self.changed("out", write_count(10 ** 20), 0)
        self.changed("out", [3, 1, 95], 2)
        self.changed("here", [31] + [65] * 31, 0)
        self.changed("here", [3, 1, 94, 200], 3)

    def test_active(self):
        for n in (61, 100, 127, 128, 10 ** 9):
            self.changed("active", write_count(n), 0)

    def test_objects(self):
        self.changed("heap3", [10], 0)
        self.changed("heap3", [200, 0], 1)
        self.changed("heap3", [200, 1], 0)
        self.changed("heap3", [0, 1, 9], 2)
        self.changed("heap3", [0, 1, 255], 2)
        self.changed("heap3", [3, 0, 5], 2)
        self.changed("heap3", [3, 0, 1, 201, 1], 3)
        self.changed("heap16", [7, 3] + write_value(("int", 2 ** 256)), 3)
        self.changed("heap16", [8] + write_value(("span", 1, -2 ** 256)), 3)
        self.changed("heap16", [3, 0] + [0, 1] * 200 + [0, 0], 402)

    def test_control_and_frames(self):
        for number in (10, 11, 127):
            self.changed("control", [number], 0)
        self.changed("control", [7, 5], 1)
        self.changed("control", [7, 255], 1)
        parts = Parts(frames=[("ret",), ("neg",)])
        self.changed("frames1", [len(FIELDS)], 0, parts)
        self.changed("frames1", write_frame(("want", "x" * 201)), 1, parts)
        self.changed("frames0", write_frame(("body", "", 2 ** 256)), 2, parts)

    def test_the_first_one(self):
        numbers = Parts().numbers()
        numbers[Parts().place("active")] = 99
        for at in range(Parts().place("active") + 1, len(numbers), 5):
            self.check(numbers[:at] + [999] + numbers[at + 1:], Parts().place("active"))
        numbers[2] = -5
        self.check(numbers, 2)

    def test_ahead_of_the_others(self):
        # Too early an end, a bad reference, too few objects and too much taken: a wrong number comes first.
        parts = Parts(control=("value", ("ref", 99)), taken=4)
        numbers = parts.numbers()
        self.check(numbers[:-1] + [250], len(numbers))
        numbers[parts.place("frames")] = 256
        self.check(numbers, parts.place("frames"))


class OtherRules(unittest.TestCase):
    def test_the_end(self):
        self.assertEqual(place_of([]), 0)
        for parts in (Parts(), Parts(frames=[("body", "g", 300), ("bin2", "+", ("text", "abc"))], taken=2)):
            numbers = parts.numbers()
            for at in range(len(numbers)):
                self.assertEqual(place_of(numbers[:at]), at)

    def test_counts_of_what_does_not_come(self):
        numbers = Parts().numbers()[:-1]
        self.assertEqual(place_of(numbers + write_count(10 ** 30)), len(numbers) + len(write_count(10 ** 30)))
        many = numbers + write_count(10 ** 30) + [0] * 1000
        self.assertEqual(place_of(many), len(many))

    def test_numbers_behind(self):
        numbers = Parts().numbers()
        for behind in ([0], [256], [-1], [1, 2, 3], numbers):
            self.assertEqual(place_of(numbers + behind), len(numbers))

    def test_too_few_objects(self):
        for many in (0, 1, 5, 16):
            parts = Parts([MODULE] * many)
            self.assertEqual(place_of(parts.numbers()), parts.place("heap"))
        self.assertEqual(place_of(Parts([MODULE] * 17).numbers()), None)

    def test_references(self):
        for k in (17, 18, 128, 10 ** 30):
            parts = Parts(control=("value", ("ref", k)))
            self.assertEqual(place_of(parts.numbers()), parts.place("control") + 2)
            parts = Parts(control=("exec", (), k))
            self.assertEqual(place_of(parts.numbers()), parts.place("control") + 3)
            parts = Parts(frames=[("class2", "K", k, 0, 0)])
            self.assertEqual(place_of(parts.numbers()), parts.place("frames0") + 3)
            parts = Parts(frames=[("ret",), ("after", ("raise", ("ref", k)))])
            self.assertEqual(place_of(parts.numbers()), parts.place("frames1") + 3)
        parts = Parts(frames=[("class2", "K", 16, 16, 16)])
        self.assertEqual(place_of(parts.numbers()), None)

    def test_references_in_objects(self):
        heap = Parts().heap
        for at, item in enumerate((
                ("list", (NONE, ("ref", 40))), ("dict", ((NONE, ("ref", 40)),)), ("class", "K", 40, ()),
                ("scope", (("a", ("ref", 40)),), (), (), 3, False), ("inst", 40, ()), ("iter", ("ref", 40), 1, 2),
                ("gen", "g", "paused", (("ret",), ("bin2", "+", ("ref", 40)))))):
            parts = Parts(heap[:9] + [item] + heap[10:])
            expected = (4, 4, 3, 5, 1, 2, 16)
            self.assertEqual(place_of(parts.numbers()), parts.place("heap9") + expected[at])

    def test_the_first_reference(self):
        heap = Parts().heap
        heap[5] = ("list", (("ref", 3), ("ref", 17), ("ref", 99)))
        parts = Parts(heap, control=("value", ("ref", 300)))
        self.assertEqual(place_of(parts.numbers()), parts.place("heap5") + 5)

    def test_taken(self):
        for taken in (4, 5, 300, 10 ** 30):
            self.assertEqual(place_of(Parts(taken=taken).numbers()), 1)
        self.assertEqual(place_of(Parts(taken=1, out="").numbers()), 1)

    def test_another_held_run(self):
        heap = Parts().heap
        # An object that cannot be reached: where the count of objects differs.
        parts = Parts(heap + [("list", ())])
        self.assertEqual(place_of(parts.numbers()), parts.place("heap"))
        # Objects in another order: where the first reference differs.
        parts = Parts(heap + [("list", ()), ("tuple", (("ref", 17),))], control=("value", ("ref", 18)))
        self.assertEqual(place_of(parts.numbers()), parts.place("heap17"))
        two = heap + [("list", ()), ("list", ())]
        parts = Parts(two, control=("value", ("ref", 18)), frames=[("bin2", "+", ("ref", 17))])
        self.assertEqual(place_of(parts.numbers()), parts.place("control") + 2)
        parts = Parts(two, control=("value", ("ref", 17)), frames=[("bin2", "+", ("ref", 18))])
        self.assertEqual(place_of(parts.numbers()), None)

    def test_rings(self):
        heap = Parts().heap + [("list", (("ref", 18), ("ref", 17))), ("list", (("ref", 17),))]
        self.assertEqual(place_of(Parts(heap, control=("value", ("ref", 17))).numbers()), None)
        parts = Parts(heap, control=("value", ("ref", 18)))
        # In canonical numbers the list of one item comes first.
        self.assertEqual(place_of(parts.numbers()), parts.place("heap17") + 1)

    def test_which_one_comes_first(self):
        heap = Parts().heap
        behind = [5]
        # 3 ahead of 4, 5, 6 and 7
        parts = Parts(heap[:16], control=("value", ("ref", 40)), taken=9)
        self.assertEqual(place_of(parts.numbers() + behind), len(parts.numbers()))
        # 4 ahead of 5, 6 and 7
        self.assertEqual(place_of(parts.numbers()), parts.place("heap"))
        # 5 ahead of 6 and 7
        parts = Parts(heap + [("list", ())], control=("value", ("ref", 40)), taken=9)
        self.assertEqual(place_of(parts.numbers()), parts.place("control") + 2)
        # 6 ahead of 7
        parts = Parts(heap + [("list", ())], taken=9)
        self.assertEqual(place_of(parts.numbers()), 1)
        parts = Parts(heap + [("list", ())], taken=3)
        self.assertEqual(place_of(parts.numbers()), parts.place("heap"))


class AtRandom(unittest.TestCase):
    """Held runs that were changed, against the rules told once more."""

    def check(self, numbers):
        expected = plain_place(numbers)
        found = place_of(numbers)
        if expected is not None:
            self.assertEqual(found, expected, numbers)
        elif found is not None:
            # The seventh rule: what was written of the machine is another list.
            self.assertTrue(0 < found <= len(numbers))
        else:
            machine, taken = read_machine(numbers)
            self.assertEqual(write_machine(machine, taken), numbers)

    def changed(self, chance, numbers):
        numbers = list(numbers)
        for _ in range(chance.choice((1, 1, 1, 2, 3))):
            at = chance.randrange(len(numbers))
            number = chance.choice((0, 1, 2, 8, 9, 94, 95, 127, 128, 200, 255, 256, -1, chance.randint(0, 20)))
            kind = chance.randint(0, 5)
            if kind <= 2:
                numbers[at] = number
            elif kind == 3:
                numbers.insert(at, number)
            elif kind == 4:
                del numbers[at]
            else:
                numbers[at:] = numbers[at:at + chance.randint(0, 50)]
            if not numbers:
                break
        return numbers

    def test_changed_lists(self):
        chance = random.Random(7)
        for machine in some_machines()[::2]:
            numbers = write_machine(machine, len(machine.out) // 3)
            self.assertIsNone(plain_place(numbers))
            for _ in range(60):
                self.check(self.changed(chance, numbers))

    def test_small_lists(self):
        chance = random.Random(8)
        samples = [Parts(control=control, frames=[frame]).numbers() for control, _ in samples_of(CONTROLS)
                   for frame, _ in samples_of(FIELDS)[::7]]
        for numbers in samples:
            self.check(numbers)
            for _ in range(12):
                place = Parts().place("control")
                self.check(numbers[:place] + self.changed(chance, numbers[place:]))


class Long(unittest.TestCase):
    """Held runs of more than 1,000,000 numbers."""

    def parts(self, size, many=1000):
        rows = ("list", texts(*["x" * 990] * many))
        heap = Parts().heap + [rows]
        parts = Parts(heap, control=("value", ("ref", 17)))
        parts.out = "y" * (size - len(parts.numbers()) + 3 + 1 - len(write_count(size - len(parts.numbers()))))
        return parts

    def test_at_the_bound(self):
        parts = self.parts(1000000)
        numbers = parts.numbers()
        for off in range(-3, 4):
            parts.out = "y" * (len(parts.out) + 1000000 + off - len(parts.numbers()))
            numbers = parts.numbers()
            self.assertEqual(len(numbers), 1000000 + off)
            machine = parts.machine()
            if off <= 0:
                self.assertEqual(write_machine(machine, 0), numbers)
                if off == 0:
                    self.assertEqual(fields(read_machine(numbers)[0]), fields(machine))
            else:
                self.assertRaises(TooLong, write_machine, machine, 0)
                self.assertRaises(TooLong, read_machine, numbers)

    def test_too_long_comes_first(self):
        self.assertRaises(TooLong, read_machine, [7] * 1000001)
        self.assertEqual(place_of([7] * 1000000), 0)
        self.assertEqual(place_of([1] * 1000000), 20)

    def test_a_program(self):
        machine = stepped("a = []\nwhile len(a) < 1000:\n    a.append('x' * 1000)\n", 60000)
        self.assertEqual(machine.control, ("done",))
        self.assertRaises(TooLong, write_machine, machine, 0)

    def test_a_list_that_is_shorter_than_its_held_run(self):
        # The object 17 is referred to very often, and its canonical number has one digit more.
        rows = [("list", (("ref", 17),) * 2400) for _ in range(200)]
        first = ("list", tuple(("ref", 19 + k) for k in range(200)))
        parts = Parts(Parts().heap + [("list", ()), first] + rows, control=("value", ("ref", 18)))
        self.assertLess(len(parts.numbers()), 1000000)
        self.assertRaises(TooLong, write_machine, parts.machine(), 0)
        self.assertEqual(place_of(parts.numbers()), parts.place("heap17") + 1)


class Steps(unittest.TestCase):
    def test_a_restored_machine_goes_on(self):
        for machine in some_machines()[::6]:
            made, _ = read_machine(write_machine(machine, 0))
            for _ in range(300):
                self.assertIs(step(made), step(machine))
            self.assertIs(same_run(made, machine), True)
            self.assertEqual(write_machine(made, 0), write_machine(machine, 0))


if __name__ == "__main__":
    unittest.main()
