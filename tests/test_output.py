import unittest

from pyhold.core import start_heap
from pyhold.library import built
from pyhold.output import meet_print
from tests.heaps import NONE, TOO_LARGE, YES, ints, nested, put, refs, texts
from tests.machines import fields, machine_of, member_of, new_machine, raised, settled, with_class

TOO_LARGE = TOO_LARGE[1:]


class Print(unittest.TestCase):
    def check(self, args, expected):
        machine = machine_of(frames=[("ret",)], active=60, out="x\n")
        values = tuple([put(machine.heap, data) for data in args])
        before = fields(machine)
        self.assertIsNone(built(machine, "print", values, ()))
        settled(self, machine, before, out="x\n" + expected)

    def refused(self, args, out="x\n"):
        machine = machine_of(frames=[("ret",)], out=out)
        values = tuple([put(machine.heap, data) for data in args])
        before = fields(machine)
        built(machine, "print", values, ())
        raised(self, machine, before, *TOO_LARGE)

    def test_texts(self):
        self.check((), "\n")
        self.check(("a",), "a\n")
        self.check(("",), "\n")
        self.check(("", ""), " \n")
        self.check(("a", "b\nc", " ", "it's"), "a b\nc   it's\n")
        self.check((None, True, 1, -5, [1, "a"], ("a",), {"a": 1}, range(2)), "None True 1 -5 [1, 'a'] ('a',) {'a': 1} range(0, 2)\n")

    def test_other_kinds(self):
        machine, box = new_machine("op_add")
        for value, expected in (
                (("built", "len"), "<builtin len>"), (("host", "ask"), "<host ask>"), (("ref", 17), "<function f>"),
                (("ref", 18), "<class Box>"), (box, "<Box object>")):
            before = fields(machine)
            built(machine, "print", (value,), ())
            settled(self, machine, before, out=before["out"] + expected + "\n")

    def test_the_line(self):
        self.check(("a" * 1000,), "a" * 1000 + "\n")
        self.check(("a" * 500, "b" * 499), "a" * 500 + " " + "b" * 499 + "\n")
        self.refused(("a" * 500, "b" * 500))
        self.check(("a" * 999, ""), "a" * 999 + " \n")
        self.refused(("a" * 1000, ""))
        self.check(("",) * 1001, " " * 1000 + "\n")
        self.refused(("",) * 1002)
        self.refused(("a" * 1000, "b" * 1000))

    def test_what_showing_refuses(self):
        self.refused((["a" * 1000],))
        self.refused(("a", list(range(1000)), "b"))
        machine = machine_of(nested("list", 1000))
        machine.heap[:0] = []
        before = fields(machine)
        built(machine, "print", (("ref", 999),), ())
        raised(self, machine, before, *TOO_LARGE)

    def test_inside_themselves(self):
        machine = machine_of()
        machine.heap.append(("list", (("ref", 17),)))
        before = fields(machine)
        built(machine, "print", refs(17, 17), ())
        settled(self, machine, before, out="[[...]] [[...]]\n")

    def test_the_whole_output(self):
        for out, args, size in ((99989, ("a" * 10,), 100000), (99999, (), 100000), (99000, ("a" * 999,), 100000)):
            machine = machine_of(out="x" * out)
            before = fields(machine)
            built(machine, "print", tuple(put(machine.heap, data) for data in args), ())
            settled(self, machine, before, out="x" * out + "".join(args) + "\n")
            self.assertEqual(len(machine.out), size)
        self.refused(("a" * 10,), "x" * 99990)
        self.refused((), "x" * 100000)
        self.refused(("a" * 1000,), "x" * 99000)
        self.refused(("",), "x" * 100000)


class Asked(unittest.TestCase):
    """Arguments with op_str or op_repr of their own."""

    def asks(self, machine, before, told, box, name, rest):
        before["frames"] = [("want", "text"), ("print", ("text", told), rest)] + before["frames"]
        before["control"] = ("call", member_of(machine, box, name), (box,), ())
        self.assertEqual(fields(machine), before)

    def test_which_method(self):
        for names, name in ((("op_str",), "op_str"), (("op_repr",), "op_repr"), (("op_repr", "op_str"), "op_str")):
            machine, box = new_machine(*names)
            before = fields(machine)
            self.assertIsNone(built(machine, "print", (box,), ()))
            self.asks(machine, before, "", box, name, ())

    def test_among_others(self):
        machine, box = new_machine("op_str")
        before = fields(machine)
        built(machine, "print", ints(1, 2) + (box, YES, box), ())
        self.asks(machine, before, "1 2 ", box, "op_str", (YES, box))

    def test_the_text_comes(self):
        machine, box = new_machine("op_str")
        for frame, text, out in (
                (("print", ("text", ""), ()), "b", "b\n"), (("print", ("text", "a "), ()), "b\n", "a b\n\n"),
                (("print", ("text", "a "), ints(1) + texts("c")), "b", "a b 1 c\n")):
            machine.out = "x\n"
            machine.control = ("value", ("text", text))
            before = fields(machine)
            self.assertIsNone(meet_print(machine, frame))
            settled(self, machine, before, out="x\n" + out)

    def test_the_next_one_is_asked(self):
        machine, box = new_machine("op_repr")
        machine.control = ("value", ("text", "b"))
        before = fields(machine)
        meet_print(machine, ("print", ("text", "a "), ints(1) + (box, NONE)))
        self.asks(machine, before, "a b 1 ", box, "op_repr", (NONE,))

    def test_a_raise_goes_on(self):
        machine, box = new_machine("op_repr")
        for control in (("leave", ("raise", box)), ("leave", ("return", NONE))):
            machine.control = control
            before = fields(machine)
            meet_print(machine, ("print", ("text", "a "), (box,)))
            self.assertEqual(fields(machine), before)

    def test_a_line_that_is_too_long_asks_no_more(self):
        machine, box = new_machine("op_str")
        before = fields(machine)
        built(machine, "print", texts("a" * 1000) + (box,), ())
        raised(self, machine, before, *TOO_LARGE)
        before = fields(machine)
        built(machine, "print", texts("a" * 999) + (box,), ())
        self.asks(machine, before, "a" * 999 + " ", box, "op_str", ())

    def test_what_comes_is_too_long(self):
        for told, text, rest, fine in (
                (500, 500, (), True), (500, 501, (), False), (500, 500, ints(1), False), (0, 1000, (), True),
                (500, 499, texts(""), True), (500, 499, texts("a"), False)):
            machine = machine_of(frames=[("ret",)])
            machine.control = ("value", ("text", "b" * text))
            before = fields(machine)
            meet_print(machine, ("print", ("text", "a" * told), rest))
            if fine:
                space = " " if rest else ""
                settled(self, machine, before, out="a" * told + "b" * text + space + "\n")
            else:
                raised(self, machine, before, *TOO_LARGE)

    def test_nothing_is_put_out_ahead_of_the_last_text(self):
        machine, box = new_machine("op_str")
        built(machine, "print", texts("a") + (box,), ())
        self.assertEqual(machine.out, "")
        machine.out = "x" * 99996
        machine.frames[:] = [("ret",)]
        machine.control = ("value", ("text", "b"))
        before = fields(machine)
        meet_print(machine, ("print", ("text", "a "), ()))
        settled(self, machine, before, out="x" * 99996 + "a b\n")
        machine.out = "x" * 99997
        machine.control = ("value", ("text", "b"))
        before = fields(machine)
        meet_print(machine, ("print", ("text", "a "), ()))
        raised(self, machine, before, *TOO_LARGE)

    def test_within_rows_nothing_is_asked(self):
        machine, box = new_machine("op_str", "op_repr")
        machine.heap.append(("list", (box,)))
        before = fields(machine)
        built(machine, "print", (("ref", len(machine.heap) - 1),), ())
        settled(self, machine, before, out="[<Box object>]\n")

    def test_instances_of_two_classes(self):
        machine = machine_of(start_heap(()))
        one = with_class(machine.heap, "op_len")
        other = with_class(machine.heap, "op_str")
        before = fields(machine)
        built(machine, "print", (one, other), ())
        self.asks(machine, before, "<Box object> ", other, "op_str", ())


if __name__ == "__main__":
    unittest.main()
