import unittest

from pyhold.own import (
    own_binary, own_compare, own_drop_item, own_item, own_iter, own_length, own_minus, own_put_item, own_text)
from tests.heaps import NONE, all_kinds, ints
from tests.machines import fields, machine_of, member_of, new_machine, with_class

ALL = (
    "op_add op_sub op_mul op_div op_mod op_neg op_eq op_lt op_le op_gt op_ge op_in op_item op_put "
    "op_drop op_len op_str op_repr op_iter op_next op_init op_call op_ne op_radd op_not op_hash").split()

ONE, TWO = ints(1, 2)


class Own(unittest.TestCase):
    """Each operation with a class that has all methods, one of them, or none."""

    def asked(self, names, operation, x, others=(), wanted=""):
        """The operation on an instance calls x with it and the others."""
        machine, box = new_machine(*names)
        before = fields(machine)
        self.assertIs(operation(machine, box), True)
        before["control"] = ("call", member_of(machine, box, x), (box,) + others, ())
        if wanted:
            before["frames"].insert(0, ("want", wanted))
        self.assertEqual(fields(machine), before)

    def left(self, names, operation):
        """The operation asks nothing and changes nothing."""
        machine, box = new_machine(*names)
        before = fields(machine)
        self.assertIs(operation(machine, box), False)
        self.assertEqual(fields(machine), before)

    def check(self, operation, x, others=(), wanted=""):
        self.asked((x,), operation, x, others, wanted)
        self.asked(ALL, operation, x, others, wanted)
        self.asked(ALL[::-1], operation, x, others, wanted)
        self.left((), operation)
        self.left([name for name in ALL if name != x], operation)

    def test_binary(self):
        for op, x in (("+", "op_add"), ("-", "op_sub"), ("*", "op_mul"), ("//", "op_div"), ("mod", "op_mod")):
            self.check(lambda machine, box: own_binary(machine, op, box, ONE), x, (ONE,))
            self.left(ALL, lambda machine, box: own_binary(machine, op, ONE, box))

    def test_minus(self):
        self.check(own_minus, "op_neg")

    def test_order(self):
        for op, x in (("<", "op_lt"), ("<=", "op_le"), (">", "op_gt"), (">=", "op_ge")):
            self.check(lambda machine, box: own_compare(machine, op, box, ONE), x, (ONE,), "bool")
            self.left(ALL, lambda machine, box: own_compare(machine, op, ONE, box))

    def test_equality(self):
        for op, wanted in (("==", "bool"), ("!=", "notbool")):
            self.check(lambda machine, box: own_compare(machine, op, box, ONE), "op_eq", (ONE,), wanted)
            self.check(lambda machine, box: own_compare(machine, op, ONE, box), "op_eq", (ONE,), wanted)

    def test_equality_with_itself(self):
        machine, box = new_machine("op_eq")
        self.assertIs(own_compare(machine, "==", box, box), True)
        self.assertEqual(machine.control, ("call", member_of(machine, box, "op_eq"), (box, box), ()))

    def test_equality_asks_the_left_one_first(self):
        machine, left = new_machine("op_eq")
        right = with_class(machine.heap, "op_eq")
        self.assertIs(own_compare(machine, "==", left, right), True)
        self.assertEqual(machine.control, ("call", member_of(machine, left, "op_eq"), (left, right), ()))
        self.assertEqual(machine.frames, [("want", "bool"), ("ret",)])
        machine, left = new_machine("op_lt")
        right = with_class(machine.heap, "op_eq")
        self.assertIs(own_compare(machine, "!=", left, right), True)
        self.assertEqual(machine.control, ("call", member_of(machine, right, "op_eq"), (right, left), ()))
        self.assertEqual(machine.frames, [("want", "notbool"), ("ret",)])

    def test_membership(self):
        for op, wanted in (("in", "bool"), ("notin", "notbool")):
            self.check(lambda machine, box: own_compare(machine, op, ONE, box), "op_in", (ONE,), wanted)
            self.left(ALL, lambda machine, box: own_compare(machine, op, box, ONE))

    def test_identity_asks_nothing(self):
        for op in ("is", "isnot"):
            for operation in (
                    lambda machine, box: own_compare(machine, op, box, ONE),
                    lambda machine, box: own_compare(machine, op, ONE, box),
                    lambda machine, box: own_compare(machine, op, box, box)):
                self.left(ALL, operation)

    def test_items(self):
        self.check(lambda machine, box: own_item(machine, box, ONE), "op_item", (ONE,))
        self.check(
            lambda machine, box: own_put_item(machine, box, ONE, TWO), "op_put", (ONE, TWO), "nothing")
        self.check(lambda machine, box: own_drop_item(machine, box, ONE), "op_drop", (ONE,), "nothing")

    def test_length(self):
        self.check(own_length, "op_len", (), "count")

    def test_iter(self):
        self.check(own_iter, "op_iter", (), "iterator")

    def test_repr(self):
        self.check(lambda machine, box: own_text(machine, box, False), "op_repr", (), "text")

    def test_str(self):
        def operation(machine, box):
            return own_text(machine, box, True)
        self.asked(("op_str",), operation, "op_str", (), "text")
        self.asked(("op_repr",), operation, "op_repr", (), "text")
        self.asked(ALL, operation, "op_str", (), "text")
        self.asked(ALL[::-1], operation, "op_str", (), "text")
        self.left((), operation)
        self.left([name for name in ALL if name not in ("op_str", "op_repr")], operation)


OPERATIONS = (
    lambda machine, a: own_binary(machine, "+", a, a), own_minus,
    lambda machine, a: own_compare(machine, "==", a, a), lambda machine, a: own_compare(machine, "<", a, a),
    lambda machine, a: own_compare(machine, "in", a, a), lambda machine, a: own_item(machine, a, a),
    lambda machine, a: own_put_item(machine, a, a, a), lambda machine, a: own_drop_item(machine, a, a),
    own_length, lambda machine, a: own_text(machine, a, True), lambda machine, a: own_text(machine, a, False),
    own_iter)


class WhoIsAsked(unittest.TestCase):
    def test_only_instances(self):
        heap, kinds = all_kinds()
        machine = machine_of(heap)
        before = fields(machine)
        for value, _ in kinds:
            for operation in OPERATIONS:
                self.assertIs(operation(machine, value), False)
        self.assertEqual(fields(machine), before)

    def test_a_class_is_not_asked(self):
        machine, box = new_machine(*ALL)
        before = fields(machine)
        for operation in OPERATIONS:
            self.assertIs(operation(machine, ("ref", box[1] - 1)), False)
        self.assertEqual(fields(machine), before)

    def test_own_members_are_not_asked(self):
        machine, box = new_machine()
        other = with_class(machine.heap, "op_len")
        function = member_of(machine, other, "op_len")
        machine.heap[box[1]] = ("inst", box[1] - 1, tuple((x, function) for x in ALL))
        before = fields(machine)
        for operation in OPERATIONS:
            self.assertIs(operation(machine, box), False)
        self.assertEqual(fields(machine), before)

    def test_methods_of_a_base(self):
        machine, box = new_machine(*ALL)
        machine.heap.append(("class", "Below", box[1] - 1, ()))
        machine.heap.append(("inst", box[1] + 1, ()))
        below = ("ref", box[1] + 2)
        for operation in OPERATIONS:
            machine.frames[:] = []
            self.assertIs(operation(machine, below), True)
            self.assertEqual(machine.control[0], "call")
            self.assertEqual(machine.control[2][0], below)
        machine.heap[box[1] + 1] = ("class", "Below", box[1] - 1, tuple((x, NONE) for x in ALL))
        before = fields(machine)
        for operation in OPERATIONS:
            self.assertIs(operation(machine, below), False)
        self.assertEqual(fields(machine), before)

    def test_other_members_count_as_none(self):
        for value in (NONE, ("built", "len"), ("host", "ask"), ("ref", 1)):
            machine, box = new_machine()
            machine.heap[box[1] - 1] = ("class", "Box", -1, tuple((x, value) for x in ALL))
            before = fields(machine)
            for operation in OPERATIONS:
                self.assertIs(operation(machine, box), False)
            self.assertEqual(fields(machine), before)

    def test_functions_with_yield_are_methods_too(self):
        machine, box = new_machine("op_len")
        function = member_of(machine, box, "op_len")
        machine.heap[function[1]] = ("func", "f", ("self",), (), (), (("self",), (), True), 0)
        self.assertIs(own_length(machine, box), True)
        self.assertEqual(machine.control, ("call", function, (box,), ()))


if __name__ == "__main__":
    unittest.main()
