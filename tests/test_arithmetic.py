import unittest

from pyhold.arithmetic import binary, negated

EDGE = 2 ** 256
NONE = ("none",)
OPS = ("+", "-", "*", "//", "mod")
TOO_LARGE = ("raise", 15, "too large")


def ints(*numbers):
    return tuple(("int", n) for n in numbers)


class Integers(unittest.TestCase):
    def check(self, a, op, b, expected):
        outcome = binary([], op, ("int", a), ("int", b))
        self.assertEqual(outcome, ("ok", ("int", expected)), (a, op, b))
        self.assertIs(type(outcome[1][1]), int)

    def test_example(self):
        self.assertEqual(binary([], "//", ("int", -7), ("int", 2)), ("ok", ("int", -4)))

    def test_all(self):
        for a in (-7, -6, -1, 0, 1, 5, 6, 7, 2 ** 200):
            for b in (-3, -2, -1, 0, 1, 2, 3, 7):
                self.check(a, "+", b, a + b)
                self.check(a, "-", b, a - b)
                self.check(a, "*", b, a * b)
                if b != 0:
                    self.check(a, "//", b, a // b)
                    self.check(a, "mod", b, a - a // b * b)

    def test_rounding_down(self):
        self.check(7, "//", -2, -4)
        self.check(-7, "//", -2, 3)
        self.check(-7, "mod", 2, 1)
        self.check(7, "mod", -2, -1)
        self.check(-7, "mod", -2, -1)

    def test_division_by_zero(self):
        for a in (("int", 0), ("int", 7), ("int", -7), ("bool", True), ("int", EDGE - 1)):
            for op in ("//", "mod"):
                for b in (("int", 0), ("bool", False)):
                    self.assertEqual(binary([], op, a, b), ("raise", 3, "division by zero"))

    def test_edge(self):
        refused = ("raise", 4, "integer too large")
        top = ("int", EDGE - 1)
        low = ("int", 1 - EDGE)
        self.check(EDGE - 2, "+", 1, EDGE - 1)
        self.check(2 - EDGE, "-", 1, 1 - EDGE)
        self.check(2 ** 128, "*", 2 ** 128 - 1, 2 ** 256 - 2 ** 128)
        self.check(1 - EDGE, "//", -1, EDGE - 1)
        self.check(EDGE - 1, "mod", 1 - EDGE, 0)
        self.check(-1, "mod", EDGE - 1, EDGE - 2)
        self.assertEqual(binary([], "+", top, ("int", 1)), refused)
        self.assertEqual(binary([], "+", top, ("bool", True)), refused)
        self.assertEqual(binary([], "-", low, ("int", 1)), refused)
        self.assertEqual(binary([], "*", ("int", 2 ** 128), ("int", 2 ** 128)), refused)
        self.assertEqual(binary([], "*", ("int", -2 ** 128), ("int", 2 ** 128)), refused)
        self.assertEqual(binary([], "-", top, low), refused)
        self.assertEqual(binary([], "*", top, top), refused)

    def test_booleans(self):
        yes, no = ("bool", True), ("bool", False)
        for a, op, b, expected in (
                (yes, "+", yes, 2), (yes, "-", no, 1), (no, "*", yes, 0), (yes, "//", yes, 1),
                (yes, "mod", yes, 0), (yes, "+", ("int", 2), 3), (("int", 5), "*", no, 0),
                (no, "+", no, 0), (yes, "*", yes, 1), (("int", 3), "mod", yes, 0)):
            outcome = binary([], op, a, b)
            self.assertEqual(outcome, ("ok", ("int", expected)))
            self.assertIs(type(outcome[1][1]), int)


class Joining(unittest.TestCase):
    def test_texts(self):
        self.assertEqual(binary([], "+", ("text", "ab"), ("text", "c")), ("ok", ("text", "abc")))
        self.assertEqual(binary([], "+", ("text", ""), ("text", "")), ("ok", ("text", "")))

    def test_objects(self):
        for kind in ("tuple", "list"):
            heap = [(kind, ints(1, 2)), (kind, ints(3)), (kind, ())]
            before = list(heap)
            self.assertEqual(binary(heap, "+", ("ref", 0), ("ref", 1)), ("ok", ("ref", 3)))
            self.assertEqual(heap, before + [(kind, ints(1, 2, 3))])
            self.assertEqual(binary(heap, "+", ("ref", 2), ("ref", 2)), ("ok", ("ref", 4)))
            self.assertEqual(heap[4], (kind, ()))
            self.assertEqual(binary(heap, "+", ("ref", 0), ("ref", 0)), ("ok", ("ref", 5)))
            self.assertEqual(heap[5], (kind, ints(1, 2, 1, 2)))
            self.assertEqual(heap[:3], before)

    def test_bounds(self):
        self.assertEqual(
            binary([], "+", ("text", "a" * 600), ("text", "b" * 400)),
            ("ok", ("text", "a" * 600 + "b" * 400)))
        self.assertEqual(binary([], "+", ("text", "a" * 600), ("text", "b" * 401)), TOO_LARGE)
        for kind in ("tuple", "list"):
            heap = [(kind, ints(*range(600))), (kind, ints(*range(400))), (kind, ints(*range(401)))]
            self.assertEqual(binary(heap, "+", ("ref", 0), ("ref", 2)), TOO_LARGE)
            self.assertEqual(len(heap), 3)
            self.assertEqual(binary(heap, "+", ("ref", 0), ("ref", 1)), ("ok", ("ref", 3)))
            self.assertEqual(len(heap[3][1]), 1000)


class Repeating(unittest.TestCase):
    def test_texts(self):
        for a, b, expected in (
                (("text", "ab"), ("int", 3), "ababab"), (("int", 2), ("text", "ab"), "abab"),
                (("text", "ab"), ("int", 0), ""), (("text", "ab"), ("int", -5), ""),
                (("text", "ab"), ("bool", True), "ab"), (("bool", False), ("text", "ab"), ""),
                (("text", ""), ("int", EDGE - 1), ""), (("int", EDGE - 1), ("text", ""), ""),
                (("text", "ab"), ("int", 1 - EDGE), ""), (("text", "ab"), ("int", 1), "ab")):
            self.assertEqual(binary([], "*", a, b), ("ok", ("text", expected)))

    def test_objects(self):
        for kind in ("tuple", "list"):
            for many, items in ((2, ints(1, 2, 1, 2)), (1, ints(1, 2)), (0, ()), (-1, ())):
                for turned in (False, True):
                    heap = [(kind, ints(1, 2))]
                    pair = (("int", many), ("ref", 0)) if turned else (("ref", 0), ("int", many))
                    self.assertEqual(binary(heap, "*", *pair), ("ok", ("ref", 1)))
                    self.assertEqual(heap, [(kind, ints(1, 2)), (kind, items)])
            heap = [(kind, ())]
            self.assertEqual(binary(heap, "*", ("ref", 0), ("int", EDGE - 1)), ("ok", ("ref", 1)))
            self.assertEqual(heap, [(kind, ()), (kind, ())])

    def test_bounds(self):
        self.assertEqual(
            binary([], "*", ("text", "ab"), ("int", 500)), ("ok", ("text", "ab" * 500)))
        self.assertEqual(binary([], "*", ("text", "ab"), ("int", 501)), TOO_LARGE)
        self.assertEqual(binary([], "*", ("int", EDGE - 1), ("text", "a")), TOO_LARGE)
        for kind in ("tuple", "list"):
            heap = [(kind, ints(1))]
            self.assertEqual(binary(heap, "*", ("ref", 0), ("int", 1001)), TOO_LARGE)
            self.assertEqual(binary(heap, "*", ("int", EDGE - 1), ("ref", 0)), TOO_LARGE)
            self.assertEqual(len(heap), 1)
            self.assertEqual(binary(heap, "*", ("ref", 0), ("int", 1000)), ("ok", ("ref", 1)))
            self.assertEqual(heap[1], (kind, ints(1) * 1000))


class Refused(unittest.TestCase):
    def test_example(self):
        self.assertEqual(
            binary([], "+", ("int", 1), ("text", "a")),
            ("raise", 10, "unsupported operands for +: int and str"))

    def test_all_other_pairs(self):
        heap = [
            ("list", ints(1)), ("tuple", ints(1)), ("dict", ()), ("class", "Box", -1, ()),
            ("inst", 3, ())]
        before = list(heap)
        kinds = (
            (NONE, "NoneType"), (("int", 2), "int"), (("bool", True), "bool"), (("text", "a"), "str"),
            (("span", 0, 2), "range"), (("ref", 0), "list"), (("ref", 1), "tuple"),
            (("ref", 2), "dict"), (("ref", 3), "class"), (("ref", 4), "Box"),
            (("built", "len"), "builtin"), (("host", "ask"), "host"))
        numbers = ("int", "bool")
        rows = ("str", "list", "tuple")
        for a, one in kinds:
            for b, other in kinds:
                for op in OPS:
                    if one in numbers and other in numbers:
                        continue
                    if op == "+" and one == other and one in rows:
                        continue
                    if op == "*" and (one in rows and other in numbers or one in numbers and other in rows):
                        continue
                    words = "unsupported operands for " + op + ": " + one + " and " + other
                    self.assertEqual(binary(heap, op, a, b), ("raise", 10, words))
        self.assertEqual(heap, before)


class Negated(unittest.TestCase):
    def test_integers(self):
        for n in (0, 1, -1, EDGE - 1, 1 - EDGE):
            self.assertEqual(negated([], ("int", n)), ("ok", ("int", -n)))
        for value, expected in ((("bool", True), -1), (("bool", False), 0)):
            outcome = negated([], value)
            self.assertEqual(outcome, ("ok", ("int", expected)))
            self.assertIs(type(outcome[1][1]), int)

    def test_refused(self):
        heap = [("list", ())]
        for value, kind in ((NONE, "NoneType"), (("text", "1"), "str"), (("span", 0, 1), "range"),
                            (("ref", 0), "list"), (("built", "abs"), "builtin"), (("host", "a"), "host")):
            self.assertEqual(
                negated(heap, value), ("raise", 10, "unsupported operand for -: " + kind))
        self.assertEqual(heap, [("list", ())])


if __name__ == "__main__":
    unittest.main()
