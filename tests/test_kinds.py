"""Which kinds of values each operation refuses, and how it names them."""

import unittest

from pyhold.arithmetic import binary, negated
from pyhold.comparing import compare, equal, is_key
from pyhold.items import drop_item, item, part, put_item
from pyhold.values import kind_name, length, truth
from tests.heaps import NONE, all_kinds, heap_of_all

NUMBERS = ("bool", "int")
ROWS = ("str", "tuple", "list")


class Kinds(unittest.TestCase):
    def setUp(self):
        self.heap, self.kinds = all_kinds()
        self.before = list(self.heap)

    def tearDown(self):
        self.assertEqual(self.heap, self.before)

    def check(self, outcome, words):
        self.assertEqual(outcome, ("raise", 10, words))

    def test_names(self):
        for value, kind in self.kinds:
            self.assertEqual(kind_name(self.heap, value), kind)

    def test_all_kinds_are_here(self):
        found = {kind for _, kind in self.kinds}
        self.assertEqual(
            found, {kind for _, kind in heap_of_all() if kind != "scope"}
            | {"NoneType", "bool", "int", "str", "range", "builtin", "host", "KeyError"})

    def test_binary(self):
        for a, one in self.kinds:
            for b, other in self.kinds:
                for op in ("+", "-", "*", "//", "mod"):
                    if one in NUMBERS and other in NUMBERS:
                        continue
                    if op == "+" and one == other and one in ROWS:
                        continue
                    if op == "*" and (one in ROWS and other in NUMBERS or one in NUMBERS and other in ROWS):
                        continue
                    self.check(
                        binary(self.heap, op, a, b),
                        "unsupported operands for " + op + ": " + one + " and " + other)

    def test_negated(self):
        for value, kind in self.kinds:
            if kind not in NUMBERS:
                self.check(negated(self.heap, value), "unsupported operand for -: " + kind)

    def test_order(self):
        for a, one in self.kinds:
            for b, other in self.kinds:
                for op in ("<", "<=", ">", ">="):
                    if one in NUMBERS and other in NUMBERS:
                        continue
                    if one == other and one in ROWS:
                        continue
                    self.check(
                        compare(self.heap, op, a, b),
                        "unsupported operands for " + op + ": " + one + " and " + other)

    def test_membership(self):
        for a, one in self.kinds:
            for b, other in self.kinds:
                for op in ("in", "notin"):
                    outcome = compare(self.heap, op, a, b)
                    if other in ("tuple", "list", "range") or other == "str" == one:
                        self.assertEqual(outcome[0], "ok")
                    elif other == "dict":
                        self.assertEqual(outcome, self.key_outcome(a, one, op == "notin"))
                    else:
                        self.check(outcome, "unsupported operands for in: " + one + " and " + other)

    def key_outcome(self, value, kind, found):
        if kind in NUMBERS + ("NoneType", "str", "tuple"):
            return ("ok", ("bool", found))
        return ("raise", 10, "not a key: " + kind)

    def test_equality_and_identity(self):
        for a, one in self.kinds:
            for b, other in self.kinds:
                same = a == b
                self.assertIs(equal(self.heap, a, b), same, (one, other))
                for op, expected in (("==", same), ("!=", not same), ("is", same), ("isnot", not same)):
                    self.assertEqual(compare(self.heap, op, a, b), ("ok", ("bool", expected)))

    def test_keys(self):
        for value, kind in self.kinds:
            self.assertEqual(
                is_key(self.heap, value), self.key_outcome(value, kind, True), kind)

    def test_truth(self):
        for value, kind in self.kinds:
            self.assertIs(truth(self.heap, value), kind not in ("NoneType", "list", "tuple", "dict"))

    def test_length(self):
        for value, kind in self.kinds:
            if kind not in ROWS + ("range", "dict"):
                self.check(length(self.heap, value), "no length: " + kind)

    def test_items(self):
        for a, kind in self.kinds:
            if kind not in ROWS + ("range", "dict"):
                for index in (("int", 0), NONE, ("text", "a"), a):
                    self.check(item(self.heap, a, index), "no items: " + kind)
            if kind not in ("list", "dict"):
                for index in (("int", 0), NONE, ("text", "a"), a):
                    self.check(put_item(self.heap, a, index, NONE), "items cannot be set: " + kind)
                    self.check(drop_item(self.heap, a, index), "items cannot be deleted: " + kind)

    def test_indexes(self):
        for a, kind in self.kinds:
            for index, other in self.kinds:
                if other not in NUMBERS and kind in ROWS + ("range",):
                    self.check(item(self.heap, a, index), "index is no integer: " + other)
                if other not in NUMBERS and kind == "list":
                    self.check(put_item(self.heap, a, index, NONE), "index is no integer: " + other)
                    self.check(drop_item(self.heap, a, index), "index is no integer: " + other)

    def test_keys_of_dicts(self):
        for a, kind in self.kinds:
            for index, other in self.kinds:
                outcome = self.key_outcome(index, other, True)
                if kind == "dict" and outcome[0] == "raise":
                    self.assertEqual(item(self.heap, a, index), outcome)
                    self.assertEqual(put_item(self.heap, a, index, NONE), outcome)
                    self.assertEqual(drop_item(self.heap, a, index), outcome)

    def test_slices(self):
        for a, kind in self.kinds:
            for bound, other in self.kinds:
                if kind not in ROWS:
                    self.check(part(self.heap, a, bound, bound), "no slices: " + kind)
                elif other not in NUMBERS + ("NoneType",):
                    words = "slice bound is no integer: " + other
                    self.check(part(self.heap, a, bound, NONE), words)
                    self.check(part(self.heap, a, ("int", 1), bound), words)
                    self.check(part(self.heap, a, bound, ("host", "ask")), words)


if __name__ == "__main__":
    unittest.main()
