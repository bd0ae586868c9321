import unittest

from pyhold.classes import (
    attribute, base_refusal, class_line, function_member, is_kind, member, method, new_instance, put_attribute)
from pyhold.core import BASES, CLASSES, start_heap
from tests.heaps import DONE, NONE, YES, all_kinds, ints
from tests.machines import FUNCTION

METHODS = {
    "str": "find replace split join startswith endswith strip upper lower isdigit",
    "list": "append pop insert remove index count extend reverse copy clear",
    "tuple": "index count",
    "dict": "get pop setdefault update keys values items copy clear",
    "gen": "send close",
}

ONE, TWO, THREE = ints(1, 2, 3)


def line_of(many):
    """A heap with a line of so many classes, the last of which is at the end."""
    heap = start_heap(())
    heap.append(("class", "C", -1, ()))
    for _ in range(many - 1):
        heap.append(("class", "C", len(heap) - 1, ()))
    return heap


def family():
    """17 func, 18 class A, 19 class B(A), 20 class C(B), 21 an instance of C, 22 of A."""
    heap = start_heap(())
    heap.append(FUNCTION)
    heap.append(("class", "A", -1, (("f", ("ref", 17)), ("x", ONE), ("y", ONE))))
    heap.append(("class", "B", 18, (("x", TWO), ("g", ("built", "len")), ("h", ("ref", 1)))))
    heap.append(("class", "C", 19, (("z", THREE), ("f2", ("ref", 17)))))
    heap.append(("inst", 20, (("own", YES),)))
    heap.append(("inst", 18, ()))
    return heap


class Lines(unittest.TestCase):
    def test_classes_of_the_beginning(self):
        heap = start_heap(())
        for n in range(1, len(CLASSES) + 1):
            line = class_line(heap, n)
            self.assertEqual(line[0], n)
            self.assertEqual(line[-1], 1)
            for one, other in zip(line, line[1:]):
                self.assertEqual(BASES[one - 1], other)
        self.assertEqual(class_line(heap, 14), (14, 13, 1))
        self.assertEqual(class_line(heap, 1), (1,))

    def test_classes_of_a_program(self):
        heap = family()
        self.assertEqual(class_line(heap, 20), (20, 19, 18))
        self.assertEqual(class_line(heap, 18), (18,))
        heap.append(("class", "E", 7, ()))
        self.assertEqual(class_line(heap, 23), (23, 7, 5, 1))

    def test_long_lines(self):
        for many in (1, 59, 60):
            heap = line_of(many)
            self.assertEqual(class_line(heap, len(heap) - 1), tuple(range(len(heap) - 1, 16, -1)))

    def test_is_kind(self):
        heap = family()
        for k in (18, 19, 20):
            self.assertIs(is_kind(heap, ("ref", 21), k), True)
        self.assertIs(is_kind(heap, ("ref", 22), 18), True)
        for k in (19, 20, 1):
            self.assertIs(is_kind(heap, ("ref", 22), k), False)
        heap.append(("inst", 3, ()))
        for k, expected in ((3, True), (2, True), (1, True), (4, False), (5, False)):
            self.assertIs(is_kind(heap, ("ref", 23), k), expected)

    def test_only_instances_are_of_a_kind(self):
        heap, kinds = all_kinds()
        for value, kind in kinds:
            self.assertIs(is_kind(heap, value, 1), kind == "KeyError")
        self.assertIs(is_kind(family(), ("ref", 20), 20), False)


class Members(unittest.TestCase):
    def test_member(self):
        heap = family()
        for k, x, expected in (
                (20, "z", THREE), (20, "x", TWO), (20, "y", ONE), (20, "f", ("ref", 17)), (18, "x", ONE),
                (18, "z", ()), (20, "w", ()), (20, "own", ()), (1, "args", ()), (20, "h", ("ref", 1))):
            self.assertEqual(member(heap, k, x), expected)
        self.assertEqual(heap, family())

    def test_a_member_of_a_long_line(self):
        heap = line_of(60)
        heap[17] = ("class", "C", -1, (("x", ONE),))
        self.assertEqual(member(heap, len(heap) - 1, "x"), ONE)

    def test_function_member(self):
        heap = family()
        self.assertEqual(function_member(heap, 20, "f"), ("ref", 17))
        self.assertEqual(function_member(heap, 20, "f2"), ("ref", 17))
        for x in ("x", "g", "h", "w", "own"):
            self.assertEqual(function_member(heap, 20, x), ())

    def test_anything_else_hides_a_function_of_a_base(self):
        heap = family()
        for value in (NONE, ("built", "len"), ("ref", 18), ("ref", 22), ("host", "ask")):
            heap[19] = ("class", "B", 18, (("f", value),))
            self.assertEqual(function_member(heap, 20, "f"), ())
            self.assertEqual(method(heap, ("ref", 21), "f"), ())
            self.assertEqual(method(heap, ("ref", 22), "f"), ("ref", 17))

    def test_a_bound_method_is_no_function(self):
        heap = family()
        heap.append(("bound", ("ref", 22), ("ref", 17)))
        heap[18] = ("class", "A", -1, (("f", ("ref", 23)),))
        self.assertEqual(function_member(heap, 18, "f"), ())

    def test_method(self):
        heap = family()
        self.assertEqual(method(heap, ("ref", 21), "f"), ("ref", 17))
        self.assertEqual(method(heap, ("ref", 21), "x"), ())
        heap[21] = ("inst", 20, (("f", NONE), ("m", ("ref", 17))))
        self.assertEqual(method(heap, ("ref", 21), "f"), ("ref", 17))
        self.assertEqual(method(heap, ("ref", 21), "m"), ())

    def test_only_instances_have_methods(self):
        heap, kinds = all_kinds()
        for value, _ in kinds:
            for x in ("f", "append", "args", "op_add"):
                self.assertEqual(method(heap, value, x), ())
        heap = family()
        self.assertEqual(method(heap, ("ref", 18), "f"), ())


class Attributes(unittest.TestCase):
    def check(self, heap, value, x, expected):
        before = list(heap)
        self.assertEqual(attribute(heap, value, x), ("ok", expected))
        self.assertEqual(heap, before)

    def check_bound(self, heap, value, x, function):
        before = list(heap)
        self.assertEqual(attribute(heap, value, x), ("ok", ("ref", len(before))))
        self.assertEqual(heap, before + [("bound", value, function)])

    def refused(self, heap, value, x, kind):
        before = list(heap)
        self.assertEqual(attribute(heap, value, x), ("raise", 9, kind + " has no attribute " + x))
        self.assertEqual(heap, before)

    def test_instances(self):
        heap = family()
        self.check(heap, ("ref", 21), "own", YES)
        self.check(heap, ("ref", 21), "z", THREE)
        self.check(heap, ("ref", 21), "x", TWO)
        self.check(heap, ("ref", 21), "g", ("built", "len"))
        self.check(heap, ("ref", 21), "h", ("ref", 1))
        self.check(heap, ("ref", 22), "x", ONE)
        self.refused(heap, ("ref", 21), "w", "C")
        self.refused(heap, ("ref", 22), "own", "A")
        self.refused(heap, ("ref", 22), "append", "A")

    def test_functions_are_bound(self):
        heap = family()
        self.check_bound(heap, ("ref", 21), "f", ("ref", 17))
        self.check_bound(heap, ("ref", 21), "f", ("ref", 17))
        self.check_bound(heap, ("ref", 22), "f", ("ref", 17))

    def test_own_members_come_first_and_are_not_bound(self):
        heap = family()
        heap[21] = ("inst", 20, (("f", ONE), ("z", ("ref", 17)), ("q", ("ref", 17))))
        self.check(heap, ("ref", 21), "f", ONE)
        self.check(heap, ("ref", 21), "z", ("ref", 17))
        self.check(heap, ("ref", 21), "q", ("ref", 17))

    def test_bound_methods_as_members_stay_as_they_are(self):
        heap = family()
        heap.append(("bound", ("ref", 22), ("ref", 17)))
        heap[18] = ("class", "A", -1, (("f", ("ref", 23)), ("c", ("ref", 18))))
        self.check(heap, ("ref", 21), "f", ("ref", 23))
        self.check(heap, ("ref", 21), "c", ("ref", 18))

    def test_classes(self):
        heap = family()
        self.check(heap, ("ref", 20), "f", ("ref", 17))
        self.check(heap, ("ref", 20), "x", TWO)
        self.check(heap, ("ref", 20), "y", ONE)
        self.refused(heap, ("ref", 20), "own", "class")
        self.refused(heap, ("ref", 18), "z", "class")
        self.refused(heap, ("ref", 1), "args", "class")

    def test_exceptions(self):
        heap = start_heap(()) + [("tuple", ()), ("inst", 7, (("args", ("ref", 17)),))]
        self.check(heap, ("ref", 18), "args", ("ref", 17))
        self.refused(heap, ("ref", 18), "words", "KeyError")

    def test_methods_of_kinds(self):
        heap, kinds = all_kinds()
        names = {x for row in METHODS.values() for x in row.split()} | {"x", "op_len", "args", "print", "len"}
        prefixes = {"str": "str", "list": "list", "tuple": "tuple", "dict": "dict", "generator": "gen"}
        for value, kind in kinds:
            prefix = prefixes.get(kind, "")
            for x in sorted(names):
                if x in METHODS.get(prefix, "").split():
                    self.check_bound(heap, value, x, ("built", prefix + "." + x))
                elif (kind, x) != ("KeyError", "args"):
                    self.refused(heap, value, x, kind)

    def test_texts(self):
        heap = []
        self.check_bound(heap, ("text", "a b\n"), "split", ("built", "str.split"))
        self.refused([], ("text", "find"), "append", "str")


class PutAttribute(unittest.TestCase):
    def check(self, k, x, expected):
        heap = family()
        before = list(heap)
        self.assertEqual(put_attribute(heap, ("ref", k), x, NONE), DONE)
        self.assertEqual(heap[k], expected)
        before[k] = expected
        self.assertEqual(heap, before)

    def test_instances(self):
        self.check(21, "own", ("inst", 20, (("own", NONE),)))
        self.check(21, "x", ("inst", 20, (("own", YES), ("x", NONE))))
        self.check(21, "f", ("inst", 20, (("own", YES), ("f", NONE))))
        self.check(22, "a", ("inst", 18, (("a", NONE),)))

    def test_in_place(self):
        heap = family()
        heap[22] = ("inst", 18, (("a", ONE), ("b", TWO), ("c", THREE)))
        before = heap[22]
        put_attribute(heap, ("ref", 22), "b", YES)
        self.assertEqual(heap[22], ("inst", 18, (("a", ONE), ("b", YES), ("c", THREE))))
        self.assertEqual(before, ("inst", 18, (("a", ONE), ("b", TWO), ("c", THREE))))

    def test_classes(self):
        self.check(20, "z", ("class", "C", 19, (("z", NONE), ("f2", ("ref", 17)))))
        self.check(20, "x", ("class", "C", 19, (("z", THREE), ("f2", ("ref", 17)), ("x", NONE))))
        self.check(18, "x", ("class", "A", -1, (("f", ("ref", 17)), ("x", NONE), ("y", ONE))))

    def test_the_first_class_of_a_program(self):
        heap = start_heap(()) + [("class", "E", 1, ())]
        self.assertEqual(put_attribute(heap, ("ref", 17), "x", ONE), DONE)
        self.assertEqual(heap[17], ("class", "E", 1, (("x", ONE),)))

    def test_classes_of_the_beginning(self):
        heap = start_heap(())
        for k, name in enumerate(CLASSES, 1):
            for x in ("x", "args"):
                self.assertEqual(
                    put_attribute(heap, ("ref", k), x, ONE),
                    ("raise", 9, "class " + name + " cannot be changed"))
        self.assertEqual(heap, start_heap(()))

    def test_their_instances_can_be_changed(self):
        heap = start_heap(()) + [("tuple", ()), ("inst", 7, (("args", ("ref", 17)),))]
        self.assertEqual(put_attribute(heap, ("ref", 18), "args", ONE), DONE)
        self.assertEqual(put_attribute(heap, ("ref", 18), "x", TWO), DONE)
        self.assertEqual(heap[18], ("inst", 7, (("args", ONE), ("x", TWO))))

    def test_anything_else(self):
        heap, kinds = all_kinds()
        before = list(heap)
        for value, kind in kinds:
            if kind not in ("class", "Box", "KeyError"):
                for x in ("x", "append"):
                    self.assertEqual(
                        put_attribute(heap, value, x, NONE),
                        ("raise", 9, kind + " has no attribute " + x))
        self.assertEqual(heap, before)


class NewInstance(unittest.TestCase):
    def test_plain(self):
        heap = family()
        before = list(heap)
        self.assertEqual(new_instance(heap, 20, ()), ("ref", 23))
        self.assertEqual(heap, before + [("inst", 20, ())])
        self.assertEqual(new_instance(heap, 18, ints(1, 2)), ("ref", 24))
        self.assertEqual(heap[24], ("inst", 18, ()))
        self.assertEqual(len(heap), 25)

    def test_exceptions(self):
        for n in range(1, len(CLASSES) + 1):
            heap = start_heap(())
            self.assertEqual(new_instance(heap, n, ints(1, 2)), ("ref", 18))
            self.assertEqual(heap[17:], [("tuple", ints(1, 2)), ("inst", n, (("args", ("ref", 17)),))])

    def test_exceptions_of_a_program(self):
        heap = start_heap(()) + [("class", "E", 6, (("args", ONE),))]
        self.assertEqual(new_instance(heap, 17, ()), ("ref", 19))
        self.assertEqual(heap[18:], [("tuple", ()), ("inst", 17, (("args", ("ref", 18)),))])


class Bases(unittest.TestCase):
    def test_classes(self):
        heap = family()
        for k in (1, 16, 18, 20):
            self.assertEqual(base_refusal(heap, ("ref", k)), "")
        self.assertEqual(heap, family())

    def test_no_classes(self):
        heap, kinds = all_kinds()
        for value, kind in kinds:
            self.assertEqual(base_refusal(heap, value), "" if kind == "class" else "not a class")

    def test_too_many(self):
        for many, expected in ((1, ""), (58, ""), (59, ""), (60, "too many bases"), (61, "too many bases")):
            heap = line_of(many)
            self.assertEqual(base_refusal(heap, ("ref", len(heap) - 1)), expected)


if __name__ == "__main__":
    unittest.main()
