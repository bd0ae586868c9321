import random
import unittest

from pyhold.comparing import compare, equal, is_key
from tests.plain_comparing import plain_equal, plain_order
from tests.test_values import heap_of_all

EDGE = 2 ** 256
NONE = ("none",)
YES = ("ok", ("bool", True))
NO = ("ok", ("bool", False))
ORDERS = ("<", "<=", ">", ">=")
R0, R1, R2, R3 = ("ref", 0), ("ref", 1), ("ref", 2), ("ref", 3)


def ints(*numbers):
    return tuple(("int", n) for n in numbers)


def unsupported(op, one, other):
    return ("raise", 10, "unsupported operands for " + op + ": " + one + " and " + other)


class Equality(unittest.TestCase):
    def check(self, heap, a, b, expected):
        before = list(heap)
        for one, other in ((a, b), (b, a)):
            self.assertIs(equal(heap, one, other), expected, (a, b))
            self.assertEqual(compare(heap, "==", one, other), YES if expected else NO)
            self.assertEqual(compare(heap, "!=", one, other), NO if expected else YES)
        self.assertEqual(heap, before)

    def test_example(self):
        self.assertEqual(
            (equal([], ("bool", True), ("int", 1)), compare([], "<", ("text", "a"), ("text", "ab"))),
            (True, YES))

    def test_values(self):
        for a, b in ((NONE, NONE), (("int", 3), ("int", 3)), (("bool", True), ("int", 1)),
                     (("bool", False), ("int", 0)), (("bool", True), ("bool", True)),
                     (("text", "ab"), ("text", "ab")), (("span", 1, 3), ("span", 1, 3)),
                     (("span", 1, 1), ("span", 7, 7)), (("built", "len"), ("built", "len")),
                     (("host", "a"), ("host", "a"))):
            self.check([], a, b, True)
        for a, b in ((NONE, ("bool", False)), (NONE, ("int", 0)), (("int", 3), ("int", 4)),
                     (("bool", True), ("int", 2)), (("bool", True), ("bool", False)),
                     (("text", "1"), ("int", 1)), (("text", "a"), ("text", "A")),
                     (("text", ""), NONE), (("span", 1, 3), ("span", 1, 4)),
                     (("span", 1, 3), ("span", 2, 3)), (("span", 1, 1), ("span", 1, 2)),
                     (("span", 0, 0), ("int", 0)), (("built", "len"), ("built", "abs")),
                     (("built", "a"), ("host", "a")), (("host", "a"), ("host", "b")),
                     (("host", "a"), ("text", "a"))):
            self.check([], a, b, False)

    def test_rows(self):
        for kind in ("tuple", "list"):
            heap = [
                (kind, ints(1, 2)), (kind, (("bool", True), ("int", 2))), (kind, ints(1, 3)),
                (kind, ints(1)), (kind, ints(1, 2, 3)), (kind, ()), (kind, ())]
            self.check(heap, R0, R0, True)
            self.check(heap, R0, R1, True)
            self.check(heap, ("ref", 5), ("ref", 6), True)
            for k in (2, 3, 4, 5):
                self.check(heap, R0, ("ref", k), False)

    def test_each_with_its_own_kind(self):
        heap = [("tuple", ints(1)), ("list", ints(1)), ("dict", ()), ("tuple", ()), ("list", ())]
        for one in range(5):
            for other in range(5):
                self.check(heap, ("ref", one), ("ref", other), one == other)
            for value in (NONE, ("int", 0), ("text", ""), ("span", 0, 0), ("bool", False)):
                self.check(heap, ("ref", one), value, False)

    def test_nested_rows(self):
        heap = [
            ("list", (R1, R2)), ("list", ints(1)), ("tuple", (R1,)),
            ("list", (("ref", 4), ("ref", 5))), ("list", ints(1)), ("tuple", (("ref", 4),)),
            ("list", (("ref", 4), ("ref", 7))), ("tuple", (("ref", 8),)), ("list", ints(2))]
        self.check(heap, R0, R3, True)
        self.check(heap, R0, ("ref", 6), False)
        self.check(heap, R2, ("ref", 5), True)

    def test_dicts(self):
        one, two, a = ("int", 1), ("int", 2), ("text", "a")
        heap = [
            ("dict", ((one, a), (two, NONE))), ("dict", ((two, NONE), (("bool", True), a))),
            ("dict", ((one, a),)), ("dict", ((one, a), (("int", 3), NONE))),
            ("dict", ((one, a), (two, one))), ("dict", ()), ("dict", ()),
            ("dict", ((a, one), (two, NONE)))]
        self.check(heap, R0, R1, True)
        self.check(heap, ("ref", 5), ("ref", 6), True)
        for k in (2, 3, 4, 5, 7):
            self.check(heap, R0, ("ref", k), False)

    def test_keys_that_are_tuples(self):
        heap = [
            ("tuple", (("int", 1), R1)), ("tuple", (NONE, ("text", "a"))),
            ("tuple", (("bool", True), R3)), ("tuple", (NONE, ("text", "a"))),
            ("tuple", (("int", 1), ("ref", 5))), ("tuple", (NONE, ("text", "b"))),
            ("dict", ((R0, ("int", 7)),)), ("dict", ((R2, ("int", 7)),)),
            ("dict", ((("ref", 4), ("int", 7)),)), ("dict", ((R2, ("int", 8)),))]
        self.check(heap, ("ref", 6), ("ref", 7), True)
        self.check(heap, ("ref", 6), ("ref", 8), False)
        self.check(heap, ("ref", 6), ("ref", 9), False)

    def test_keys_are_not_mixed_up(self):
        def text(t):
            return ("text", t)
        keys = [
            ("int", 1), text("1"), text(""), text("none"), NONE, ("int", -1), text("-1"), ("int", 11),
            text("1 1"), text("(1"), text("1:1"), text("1:1 1:1"), text("0:"), R0, R1, R2, R3,
            ("ref", 4), ("ref", 5), ("ref", 6), ("ref", 7), ("ref", 8), ("ref", 9)]
        heap = [
            ("tuple", ()), ("tuple", ints(1)), ("tuple", ints(1, 1)), ("tuple", (text("1"),)),
            ("tuple", (R0, R0)), ("tuple", (R1,)), ("tuple", (R0,)), ("tuple", (text("1"), text("1"))),
            ("tuple", (text("1 1:1"),)), ("tuple", (R1, ("int", 1)))]
        first = len(heap)
        heap += [("dict", ((key, NONE),)) for key in keys]
        for one in range(len(keys)):
            for other in range(len(keys)):
                self.check(heap, ("ref", first + one), ("ref", first + other), one == other)
                self.assertEqual(
                    compare(heap, "in", keys[one], ("ref", first + other)),
                    YES if one == other else NO)

    def test_values_of_dicts(self):
        heap = [
            ("dict", ((NONE, R1),)), ("list", (R0,)), ("dict", ((NONE, R3),)), ("list", (R2,)),
            ("dict", ((NONE, ("ref", 5)),)), ("list", ())]
        self.check(heap, R0, R2, True)
        self.check(heap, R0, ("ref", 4), False)

    def test_other_objects(self):
        heap = [found for found, _ in heap_of_all()]
        heap += heap
        many = len(heap) // 2
        for k in range(many):
            self.check(heap, ("ref", k), ("ref", k), True)
            self.check(heap, ("ref", k), ("ref", k + many), k < 3)
        for k in range(3, many):
            for other in range(many):
                self.check(heap, ("ref", k), ("ref", other), k == other)

    def test_instances(self):
        heap = [("class", "A", -1, ()), ("inst", 0, ()), ("inst", 0, ())]
        self.check(heap, R1, R2, False)
        self.check(heap, R1, R1, True)

    def test_in_themselves(self):
        heap = [
            ("list", (R0,)), ("list", (R1,)), ("list", (R1, NONE)), ("list", (("ref", 2), NONE)),
            ("list", (("ref", 5),)), ("list", (("ref", 4),)), ("list", (R0, R1)),
            ("dict", ((NONE, ("ref", 7)),)), ("dict", ((NONE, ("ref", 8)),)),
            ("list", (("ref", 9), ("int", 1))), ("list", (("ref", 10), ("int", 2))),
            ("list", (("ref", 11), ("int", 1))), ("tuple", (R0,))]
        self.check(heap, R0, R1, True)
        self.check(heap, R0, ("ref", 4), True)
        self.check(heap, ("ref", 4), ("ref", 5), True)
        self.check(heap, R2, R3, False)
        self.check(heap, R0, ("ref", 6), False)
        self.check(heap, ("ref", 7), ("ref", 8), True)
        self.check(heap, ("ref", 9), ("ref", 10), False)
        self.check(heap, ("ref", 9), ("ref", 11), True)
        self.check(heap, R0, ("ref", 12), False)

    def test_circles_of_other_lengths(self):
        heap = [("list", (("ref", (k + 1) % 900),)) for k in range(900)]
        heap += [("list", (("ref", 900 + (k + 1) % 901),)) for k in range(901)]
        self.check(heap, R0, ("ref", 900), True)
        heap[1800] = ("list", (("ref", 900), NONE))
        self.check(heap, R0, ("ref", 900), False)

    def test_deep(self):
        for kind in ("tuple", "list", "dict"):
            heap = []
            for last in (("int", 1), ("int", 1), ("int", 2)):
                heap.append(("list", (last,)))
                for _ in range(1000):
                    inner = ("ref", len(heap) - 1)
                    heap.append((kind, ((NONE, inner),) if kind == "dict" else (inner,)))
            self.check(heap, ("ref", 1000), ("ref", 2001), True)
            self.check(heap, ("ref", 1000), ("ref", 3002), False)

    def test_shared_parts(self):
        heap = [("tuple", ()), ("tuple", ())]
        for _ in range(500):
            many = len(heap)
            heap.append(("tuple", (("ref", many - 2),) * 3))
            heap.append(("tuple", (("ref", many - 1),) * 3))
        self.check(heap, ("ref", 1000), ("ref", 1001), True)


class Order(unittest.TestCase):
    def check(self, heap, a, b, sign):
        """sign is -1, 0 or 1, as a is less, equal or greater."""
        before = list(heap)
        for op, holds in (("<", sign < 0), ("<=", sign <= 0), (">", sign > 0), (">=", sign >= 0)):
            self.assertEqual(compare(heap, op, a, b), YES if holds else NO, (op, a, b))
        for op, holds in (("<", sign > 0), ("<=", sign >= 0), (">", sign < 0), (">=", sign <= 0)):
            self.assertEqual(compare(heap, op, b, a), YES if holds else NO, (op, b, a))
        self.assertEqual(heap, before)

    def refuse(self, heap, a, b, one, other):
        for op in ORDERS:
            self.assertEqual(compare(heap, op, a, b), unsupported(op, one, other))
            self.assertEqual(compare(heap, op, b, a), unsupported(op, other, one))

    def test_integers(self):
        for a, b in ((1, 2), (-2, -1), (-1, 0), (9, 10), (1 - EDGE, EDGE - 1)):
            self.check([], ("int", a), ("int", b), -1)
            self.check([], ("int", a), ("int", a), 0)
        self.check([], ("bool", False), ("bool", True), -1)
        self.check([], ("bool", True), ("int", 1), 0)
        self.check([], ("bool", True), ("int", 2), -1)
        self.check([], ("bool", True), ("int", -2), 1)

    def test_texts(self):
        for a, b in (("a", "b"), ("a", "ab"), ("", "a"), ("B", "a"), ("a1", "aa"), ("\n", " "),
                     ("ab", "b"), ("a ", "a!"), ("Z", "_"), ("z", "~"), ("10", "9"), ("a\n", "a ")):
            self.check([], ("text", a), ("text", b), -1)
            self.check([], ("text", a), ("text", a), 0)

    def test_rows(self):
        for kind in ("tuple", "list"):
            heap = [(kind, ints(*row)) for row in ((1, 2), (1, 3), (1,), (), (2,), (1, 2), (1, 2, 0))]
            heap.append((kind, (("bool", True), ("int", 2))))
            for one, other, sign in (
                    (0, 1, -1), (0, 2, 1), (0, 3, 1), (0, 4, -1), (0, 5, 0), (0, 6, -1), (0, 0, 0),
                    (3, 3, 0), (0, 7, 0)):
                self.check(heap, ("ref", one), ("ref", other), sign)

    def test_nested_rows(self):
        heap = [
            ("tuple", (R1, ("int", 1))), ("list", ints(1, 2)), ("tuple", (R3, ("int", 0))),
            ("list", ints(1, 2)), ("tuple", (("ref", 5), ("int", 0))), ("list", ints(1, 3))]
        self.check(heap, R0, R2, 1)
        self.check(heap, R0, ("ref", 4), -1)

    def test_equal_things_without_an_order(self):
        heap = [
            ("tuple", (NONE, R2, ("int", 1))), ("tuple", (NONE, R3, ("int", 2))), ("dict", ()),
            ("dict", ())]
        self.check(heap, R0, R1, -1)

    def test_no_order(self):
        heap = [found for found, _ in heap_of_all()]
        kinds = [(("ref", k), name) for k, (_, name) in enumerate(heap_of_all())]
        kinds += [(NONE, "NoneType"), (("span", 1, 2), "range"), (("built", "a"), "builtin"),
                  (("host", "a"), "host"), (("text", "a"), "str"), (("int", 1), "int"),
                  (("bool", True), "bool")]
        allowed = (("list",), ("tuple",), ("str",), ("int", "bool"))
        for a, one in kinds:
            for b, other in kinds:
                if not any(one in some and other in some for some in allowed):
                    self.refuse(heap, a, b, one, other)

    def test_the_pair_that_has_no_order(self):
        heap = [
            ("list", (("int", 1), NONE)), ("list", (("int", 1), ("text", "a"))),
            ("list", (R0,)), ("list", (R1,)), ("list", (("ref", 5),)), ("list", (("ref", 6),)),
            ("dict", ()), ("tuple", ())]
        self.refuse(heap, R0, R1, "NoneType", "str")
        self.refuse(heap, R2, R3, "NoneType", "str")
        self.refuse(heap, ("ref", 4), ("ref", 5), "list", "dict")
        self.refuse(heap, R0, ("ref", 7), "list", "tuple")

    def test_the_first_pair_that_differs_decides(self):
        heap = [("list", (("int", 1), NONE)), ("list", (("int", 2), ("int", 5)))]
        self.check(heap, R0, R1, -1)

    def test_in_themselves(self):
        heap = [
            ("list", (R0,)), ("list", (R1,)), ("list", (R2, ("int", 1))), ("list", (R3, ("int", 2))),
            ("list", (("int", 1), ("ref", 4))), ("list", (("int", 2), ("ref", 5))),
            ("list", (R0, R0))]
        self.check(heap, R0, R0, 0)
        self.check(heap, R0, R1, 0)
        self.refuse(heap, R2, R3, "list", "list")
        self.check(heap, ("ref", 4), ("ref", 5), -1)
        self.check(heap, R0, ("ref", 6), -1)

    def test_a_pair_by_way_of_another(self):
        heap = [
            ("list", (R1, ("int", 1))), ("tuple", (R0,)), ("list", (R3, ("int", 2))), ("tuple", (R2,))]
        self.refuse(heap, R0, R2, "list", "list")
        self.refuse(heap, R1, R3, "tuple", "tuple")

    def test_deep(self):
        for kind in ("tuple", "list"):
            heap = []
            for last in (1, 2, 2):
                heap.append((kind, ints(last)))
                for _ in range(1000):
                    heap.append((kind, (NONE, ("ref", len(heap) - 1), ("int", 3))))
            self.check(heap, ("ref", 1000), ("ref", 2001), -1)
            self.check(heap, ("ref", 2001), ("ref", 3002), 0)
            heap[0] = (kind, (NONE,))
            self.refuse(heap, ("ref", 1000), ("ref", 2001), "NoneType", "int")


class Membership(unittest.TestCase):
    def check(self, heap, a, b, expected):
        before = list(heap)
        self.assertEqual(compare(heap, "in", a, b), YES if expected else NO, (a, b))
        self.assertEqual(compare(heap, "notin", a, b), NO if expected else YES, (a, b))
        self.assertEqual(heap, before)

    def refuse(self, heap, a, b, words):
        for op in ("in", "notin"):
            self.assertEqual(compare(heap, op, a, b), ("raise",) + words)

    def test_texts(self):
        for a, b, expected in (("", "", True), ("", "a", True), ("bc", "abcd", True), ("a", "a", True),
                               ("ac", "abc", False), ("ab", "a", False), ("A", "a", False)):
            self.check([], ("text", a), ("text", b), expected)

    def test_rows(self):
        for kind in ("tuple", "list"):
            heap = [(kind, (("int", 1), R1, NONE)), (kind, ints(5)), (kind, ints(5)), ("dict", ())]
            self.check(heap, ("int", 1), R0, True)
            self.check(heap, ("bool", True), R0, True)
            self.check(heap, NONE, R0, True)
            self.check(heap, R2, R0, True)
            self.check(heap, ("int", 5), R0, False)
            self.check(heap, ("text", ""), R0, False)
            self.check(heap, R3, R0, False)
            self.check(heap, R0, R0, False)

    def test_dicts(self):
        heap = [
            ("dict", ((("int", 1), NONE), (R1, ("text", "b")), (("text", "a"), NONE), (NONE, NONE))),
            ("tuple", ints(1, 2)), ("tuple", (("bool", True), ("int", 2))), ("tuple", ints(1)),
            ("list", ()), ("tuple", (("ref", 4),))]
        for value, expected in (
                (("int", 1), True), (("bool", True), True), (("text", "a"), True), (R1, True), (R2, True),
                (R3, False), (("text", "b"), False), (("int", 0), False), (NONE, True),
                (("bool", False), False), (("text", "1"), False)):
            self.check(heap, value, R0, expected)
        self.refuse(heap, ("ref", 4), R0, (10, "not a key: list"))
        self.refuse(heap, ("ref", 5), R0, (10, "not a key: tuple"))
        self.refuse(heap, ("span", 1, 2), R0, (10, "not a key: range"))
        self.refuse(heap, R0, R0, (10, "not a key: dict"))

    def test_keys_that_are_too_large(self):
        heap = [("dict", ()), ("tuple", (NONE,) * 1000)]
        self.refuse(heap, R1, R0, (15, "too large"))

    def test_spans(self):
        for a, expected in (
                (("int", 3), True), (("int", 5), True), (("int", 6), False), (("int", 2), False),
                (NONE, False), (("text", "3"), False), (("span", 3, 6), False), (("bool", True), False)):
            self.check([], a, ("span", 3, 6), expected)
        self.check([], ("bool", True), ("span", 1, 2), True)
        self.check([], ("bool", False), ("span", 1, 2), False)
        self.check([], ("int", 1), ("span", 1, 1), False)
        self.check([("list", ())], R0, ("span", 0, 9), False)

    def test_refused(self):
        heap = [("list", ()), ("class", "Box", -1, ()), ("inst", 1, ())]
        for a, b, kinds in (
                (("int", 1), ("text", "1"), "int and str"), (NONE, ("text", ""), "NoneType and str"),
                (R0, ("text", "a"), "list and str"), (R0, ("int", 3), "list and int"),
                (("int", 1), NONE, "int and NoneType"), (("int", 1), R2, "int and Box"),
                (("int", 1), R1, "int and class"), (("bool", True), ("bool", True), "bool and bool"),
                (("text", "a"), ("built", "len"), "str and builtin"), (R0, ("host", "h"), "list and host")):
            self.refuse(heap, a, b, (10, "unsupported operands for in: " + kinds))

    def test_is(self):
        heap = [("list", ()), ("list", ())]
        for a, b, expected in (
                (NONE, NONE, True), (("int", 5), ("int", 5), True), (("text", "ab"), ("text", "ab"), True),
                (("bool", True), ("bool", True), True), (R0, R0, True), (("span", 1, 2), ("span", 1, 2), True),
                (("built", "len"), ("built", "len"), True), (R0, R1, False),
                (("bool", True), ("int", 1), False), (("int", 0), ("bool", False), False),
                (("span", 1, 1), ("span", 2, 2), False), (("int", 1), ("int", 2), False),
                (NONE, ("int", 0), False), (("host", "a"), ("built", "a"), False)):
            self.assertEqual(compare(heap, "is", a, b), YES if expected else NO)
            self.assertEqual(compare(heap, "isnot", a, b), NO if expected else YES)


class Keys(unittest.TestCase):
    def test_keys(self):
        heap = [("tuple", ()), ("tuple", (R0, ("int", 1), ("text", "a"), NONE, ("bool", True)))]
        for value in (NONE, ("bool", True), ("int", -5), ("text", ""), ("text", "a b"), R0, R1):
            self.assertEqual(is_key(heap, value), YES)
        self.assertEqual(len(heap), 2)

    def test_example(self):
        self.assertEqual(is_key([("list", ())], R0), ("raise", 10, "not a key: list"))

    def test_no_keys(self):
        rows = heap_of_all()
        heap = [found for found, _ in rows]
        for k, (_, kind) in enumerate(rows):
            if kind == "tuple":
                continue
            self.assertEqual(is_key(heap, ("ref", k)), ("raise", 10, "not a key: " + kind))
            self.assertEqual(
                is_key(heap + [("tuple", (NONE, ("ref", k)))], ("ref", len(heap))),
                ("raise", 10, "not a key: tuple"))
        for value, kind in ((("span", 0, 1), "range"), (("built", "len"), "builtin"), (("host", "a"), "host")):
            self.assertEqual(is_key([], value), ("raise", 10, "not a key: " + kind))
            self.assertEqual(is_key([("tuple", (value,))], R0), ("raise", 10, "not a key: tuple"))

    def test_size(self):
        too_large = ("raise", 15, "too large")
        self.assertEqual(is_key([("tuple", (NONE,) * 999)], R0), YES)
        self.assertEqual(is_key([("tuple", (NONE,) * 1000)], R0), too_large)
        heap = [("tuple", (NONE,) * 9), ("tuple", (R0,) * 99 + (NONE,) * 9), ("tuple", (R0,) * 100)]
        self.assertEqual(is_key(heap, R1), YES)
        self.assertEqual(is_key(heap, R2), too_large)
        self.assertEqual(is_key([("tuple", (R0,))], R0), too_large)

    def test_what_is_met_first_decides(self):
        not_a_key = ("raise", 10, "not a key: tuple")
        too_large = ("raise", 15, "too large")
        wrong = ("span", 0, 1)
        self.assertEqual(is_key([("tuple", (NONE,) * 998 + (wrong,))], R0), not_a_key)
        self.assertEqual(is_key([("tuple", (NONE,) * 998 + (wrong, NONE))], R0), not_a_key)
        self.assertEqual(is_key([("tuple", (NONE,) * 999 + (wrong,))], R0), too_large)
        heap = [("tuple", (R1, wrong)), ("tuple", (NONE,) * 998), ("tuple", (R1, R3)), ("list", ())]
        self.assertEqual(is_key(heap, R0), too_large)
        heap[1] = ("tuple", (NONE,) * 997)
        self.assertEqual(is_key(heap, R0), not_a_key)
        self.assertEqual(is_key(heap, R2), not_a_key)
        heap = [("tuple", (wrong, R1)), ("tuple", (NONE,) * 1000)]
        self.assertEqual(is_key(heap, R0), not_a_key)

    def test_deep(self):
        heap = [("tuple", ())]
        for k in range(1000):
            heap.append(("tuple", (("ref", k),)))
        self.assertEqual(is_key(heap, ("ref", 999)), YES)
        self.assertEqual(is_key(heap, ("ref", 1000)), ("raise", 15, "too large"))
        heap[0] = ("list", ())
        self.assertEqual(is_key(heap, ("ref", 999)), ("raise", 10, "not a key: tuple"))
        self.assertEqual(is_key(heap, ("ref", 1000)), ("raise", 15, "too large"))


class AtRandom(unittest.TestCase):
    def random_heap(self, chance, many):
        def value():
            if chance.randint(0, 2):
                return ("ref", chance.randrange(many))
            return chance.choice((NONE, ("int", 1), ("int", 1), ("bool", True), ("text", "a")))
        heap = []
        for _ in range(many):
            kind = chance.choice(("list", "list", "list", "tuple", "dict"))
            items = tuple(value() for _ in range(chance.choice((1, 2, 2, 2))))
            if kind == "dict":
                items = tuple((("int", k), worth) for k, worth in enumerate(items))
            heap.append((kind, items))
        return heap

    def test_as_it_is_told(self):
        chance = random.Random(5)
        for _ in range(1500):
            many = chance.randint(1, 7)
            heap = self.random_heap(chance, many)
            for one in range(many):
                for other in range(many):
                    a, b = ("ref", one), ("ref", other)
                    self.assertIs(equal(heap, a, b), plain_equal(heap, a, b), (heap, a, b))
                    self.assertEqual(
                        compare(heap, "<", a, b), plain_order(heap, "<", a, b), (heap, a, b))


if __name__ == "__main__":
    unittest.main()
