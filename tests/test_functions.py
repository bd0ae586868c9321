import unittest

from pyhold.library import built, plain_built
from tests.built_calls import BuiltCalls
from tests.heaps import EDGE, NONE, TOO_LARGE, YES, all_kinds, ints, nested, refs, texts
from tests.machines import fields, machine_of, new_machine, raised, settled, with_class

LONG = list(range(1000))
R0 = ("ref", 0)


class Numbers(BuiltCalls, unittest.TestCase):
    def test_abs(self):
        for n in (0, 1, -1, 42, -42, EDGE - 1, 1 - EDGE):
            self.gives("abs", (n,), abs(n))
        self.gives("abs", (True,), 1)
        self.gives("abs", (False,), 0)
        for value, kind in (("1", "str"), (None, "NoneType"), ([1], "list"), (range(1), "range")):
            self.refuses("abs", (value,), 10, "abs() cannot take " + kind)

    def test_int(self):
        self.gives("int", (), 0)
        for n in (0, 5, -5, EDGE - 1, 1 - EDGE):
            self.gives("int", (n,), n)
        self.gives("int", (True,), 1)
        self.gives("int", (False,), 0)
        for value, kind in ((None, "NoneType"), ([1], "list"), (range(1), "range"), ({}, "dict")):
            self.refuses("int", (value,), 10, "int() cannot take " + kind)

    def test_int_of_texts(self):
        for text, expected in (
                ("0", 0), ("7", 7), ("007", 7), ("-7", -7), ("-0", 0), ("-007", -7), ("0" * 78, 0),
                ("0" * 77 + "9", 9), ("-" + "0" * 77 + "9", -9), (str(EDGE - 1), EDGE - 1),
                (str(1 - EDGE), 1 - EDGE)):
            self.gives("int", (text,), expected)
        for text in ("", "-", "--1", "+1", " 1", "1 ", "1\n", "1_0", "a", "1a", "- 1", "1-", "0x1", "1.0",
                     "0" * 79, "-" + "0" * 79, "9" * 79, "9" * 1000, "-1-"):
            self.refuses("int", (text,), 11, "invalid integer")
        for text in (str(EDGE), str(-EDGE), "9" * 78, "-" + "9" * 78):
            self.refuses("int", (text,), 4, "integer too large")
        self.assertEqual(len(str(EDGE)), 78)

    def test_range(self):
        for args, expected in (
                ((3,), range(3)), ((0,), range(0)), ((-3,), range(0)), ((2, 5), range(2, 5)),
                ((5, 2), range(5, 5)), ((-3, -1), range(-3, -1)), ((-1, -3), range(-1, -1)),
                ((1 - EDGE, EDGE - 1), range(1 - EDGE, EDGE - 1))):
            machine, values = self.arguments(args)
            outcome = ("ok", ("span", expected.start, expected.stop))
            self.assertEqual(plain_built(machine.heap, "range", values), outcome)
            before = fields(machine)
            built(machine, "range", values, ())
            settled(self, machine, before, outcome[1])

    def test_range_of_booleans(self):
        for args, expected in (((YES,), ("span", 0, 1)), ((YES, ("int", 3)), ("span", 1, 3)),
                               ((("int", -1), YES), ("span", -1, 1)), ((YES, ("bool", False)), ("span", 1, 1))):
            outcome = plain_built([], "range", args)
            self.assertEqual(outcome, ("ok", expected))
            self.assertEqual([type(n) for n in outcome[1][1:]], [int, int])

    def test_range_refused(self):
        self.refuses("range", ("a",), 10, "range() cannot take str")
        self.refuses("range", (1, None), 10, "range() cannot take NoneType")
        self.refuses("range", ([], "a"), 10, "range() cannot take list")


class Texts(BuiltCalls, unittest.TestCase):
    def test_length(self):
        for data in ("", "a b\n", [], [1, 2], (1,), {}, {1: 2}, LONG):
            self.gives("len", (data,), len(data))
        self.gives("len", (range(3, 9),), 6)
        for value, kind in ((None, "NoneType"), (1, "int"), (True, "bool")):
            self.refuses("len", (value,), 10, "no length: " + kind)
        self.refuses("len", (range(-1, EDGE - 1),), 4, "integer too large")

    def test_repr(self):
        for data in (None, True, 5, "a", "it's\n", [], ["a"], ("a",), {"a": (1, [2])}, range(2, 5)):
            self.gives("repr", (data,), repr(data))
        self.gives("repr", ("a" * 998,), "'" + "a" * 998 + "'")
        self.too_large("repr", ("a" * 999,))
        self.too_large("repr", (LONG,))

    def test_str(self):
        self.gives("str", (), "")
        for data in (None, True, 5, "a", "it's\n", [], ["a"], ("a",), {"a": (1, [2])}, range(2, 5)):
            self.gives("str", (data,), str(data))
        self.gives("str", ("a" * 1000,), "a" * 1000)
        self.too_large("str", (["a" * 1000],))

    def test_in_themselves(self):
        self.assertEqual(plain_built([("list", (R0,))], "str", (R0,)), ("ok", ("text", "[[...]]")))
        heap = nested("list", 1000)
        self.assertEqual(plain_built(heap, "repr", (("ref", 999),)), TOO_LARGE)
        self.assertEqual(plain_built(heap, "len", (("ref", 999),)), ("ok", ("int", 1)))


class Collections(BuiltCalls, unittest.TestCase):
    def test_empty(self):
        self.gives("list", (), [], objects=1)
        self.gives("tuple", (), (), objects=1)
        self.gives("dict", (), {}, objects=1)

    def test_rows(self):
        for data in ([], [1, [2]], (), (1,), "", "a b\n", range(0), range(-2, 2), {}, {"b": 1, "a": 2, 3: 4},
                     LONG, tuple(LONG), "ab" * 500, range(1000), dict.fromkeys(LONG)):
            self.gives("list", (data,), list(data), objects=1)
            self.gives("tuple", (data,), tuple(data), objects=1)

    def test_long_spans(self):
        for span in (range(1001), range(-5, 996), range(0, EDGE - 1)):
            self.too_large("list", (span,))
            self.too_large("tuple", (span,))
        self.gives("list", (range(-5, 995),), list(range(-5, 995)), objects=1)

    def test_other_kinds(self):
        for value, kind in ((None, "NoneType"), (True, "bool"), (5, "int")):
            self.refuses("list", (value,), 10, "list() cannot take " + kind)
            self.refuses("tuple", (value,), 10, "tuple() cannot take " + kind)

    def test_dict(self):
        for data in ({}, {"b": 1, "a": [2]}, dict.fromkeys(LONG)):
            self.gives("dict", (data,), data, objects=1)
        for value, kind in ((None, "NoneType"), ([], "list"), ((), "tuple"), ("", "str"), (range(1), "range")):
            self.refuses("dict", (value,), 10, "dict() cannot take " + kind)

    def test_all_kinds(self):
        heap, kinds = all_kinds()
        before = list(heap)
        for value, kind in kinds:
            for name in ("list", "tuple", "dict", "int", "abs", "range"):
                outcome = plain_built(heap, name, (value,))
                if kind not in ("list", "tuple", "dict", "str", "range", "int", "bool"):
                    self.assertEqual(outcome, ("raise", 10, name + "() cannot take " + kind))
        self.assertEqual(heap[:len(before)], before)

    def test_parts_stay_the_objects_that_they_are(self):
        heap = [("list", refs(0, 1)), ("dict", ((NONE, R0),))]
        self.assertEqual(plain_built(heap, "tuple", (R0,)), ("ok", ("ref", 2)))
        self.assertEqual(plain_built(heap, "dict", (("ref", 1),)), ("ok", ("ref", 3)))
        self.assertEqual(heap[2:], [("tuple", refs(0, 1)), ("dict", ((NONE, R0),))])


class IsInstance(unittest.TestCase):
    def check(self, heap, value, wanted, expected):
        before = list(heap)
        self.assertEqual(plain_built(heap, "isinstance", (value, wanted)), ("ok", ("bool", expected)))
        self.assertEqual(heap, before)
        machine = machine_of(heap)
        told = fields(machine)
        built(machine, "isinstance", (value, wanted), ())
        settled(self, machine, told, ("bool", expected))

    def test_built_in_kinds(self):
        heap, kinds = all_kinds()
        groups = {"int": ("int", "bool"), "str": ("str",), "list": ("list",), "tuple": ("tuple",), "dict": ("dict",)}
        for value, kind in kinds:
            for name, group in groups.items():
                self.check(heap, value, ("built", name), kind in group)

    def test_classes(self):
        heap, kinds = all_kinds()
        for value, kind in kinds:
            for k, group in ((1, ("KeyError",)), (5, ("KeyError",)), (7, ("KeyError",)), (6, ()), (21, ("Box",))):
                self.check(heap, value, ("ref", k), kind in group)

    def test_a_class_with_the_name_of_a_kind(self):
        heap = machine_of().heap + [("class", "list", -1, ()), ("inst", 17, ())]
        self.check(heap, ("ref", 18), ("built", "list"), False)
        self.check(heap, ("ref", 18), ("ref", 17), True)

    def test_bases(self):
        heap = machine_of().heap + [("class", "A", -1, ()), ("class", "B", 17, ()), ("inst", 17, ()), ("inst", 18, ())]
        for value, k, expected in ((20, 17, True), (20, 18, True), (19, 17, True), (19, 18, False), (20, 1, False)):
            self.check(heap, ("ref", value), ("ref", k), expected)

    def test_other_kinds(self):
        heap, kinds = all_kinds()
        wrong = [(value, kind) for value, kind in kinds if kind not in ("class", "builtin")]
        wrong += [(("built", name), "builtin") for name in (
            "print", "len", "range", "repr", "iter", "next", "isinstance", "abs", "list.append", "str.find")]
        for value, _ in kinds:
            for wanted, kind in wrong:
                machine = machine_of(list(heap))
                before = fields(machine)
                words = "isinstance() cannot take " + kind
                self.assertEqual(plain_built(machine.heap, "isinstance", (value, wanted)), ("raise", 10, words))
                built(machine, "isinstance", (value, wanted), ())
                raised(self, machine, before, 10, words)


class WithoutOwnMethods(unittest.TestCase):
    """plain_built takes instances, iterators and generators for values like others."""

    def test_instances(self):
        machine, box = new_machine("op_len", "op_str", "op_repr", "op_iter", "op_next")
        heap = machine.heap
        heap.append(("list", (box,)))
        row = ("ref", len(heap) - 1)
        before = list(heap)
        self.assertEqual(plain_built(heap, "len", (box,)), ("raise", 10, "no length: Box"))
        self.assertEqual(plain_built(heap, "repr", (box,)), ("ok", ("text", "<Box object>")))
        self.assertEqual(plain_built(heap, "str", (box,)), ("ok", ("text", "<Box object>")))
        self.assertEqual(plain_built(heap, "str", (row,)), ("ok", ("text", "[<Box object>]")))
        for name in ("list", "tuple"):
            self.assertEqual(plain_built(heap, name, (box,)), ("raise", 10, name + "() cannot take Box"))
        self.assertEqual(heap, before)

    def test_iterators_and_generators(self):
        heap = [("iter", ("text", "ab"), 0, -1), ("gen", "g", "over", ())]
        before = list(heap)
        for k, kind, shown in ((0, "iterator", "<iterator>"), (1, "generator", "<generator g>")):
            self.assertEqual(plain_built(heap, "len", (("ref", k),)), ("raise", 10, "no length: " + kind))
            self.assertEqual(plain_built(heap, "str", (("ref", k),)), ("ok", ("text", shown)))
            for name in ("list", "tuple"):
                self.assertEqual(
                    plain_built(heap, name, (("ref", k),)), ("raise", 10, name + "() cannot take " + kind))
        self.assertEqual(heap, before)

    def test_within_rows_nothing_is_asked(self):
        machine, box = new_machine("op_eq", "op_repr", "op_str")
        other = with_class(machine.heap, "op_eq", "op_repr", "op_str")
        machine.heap.append(("list", (box,)))
        row = ("ref", len(machine.heap) - 1)
        for name, args, expected in (
                ("list.count", (row, other), ints(0)[0]), ("list.count", (row, box), ints(1)[0]),
                ("repr", (row,), texts("[<Box object>]")[0]), ("str", (row,), texts("[<Box object>]")[0])):
            before = fields(machine)
            built(machine, name, args, ())
            settled(self, machine, before, expected)


if __name__ == "__main__":
    unittest.main()
