import unittest

from pyhold.core import start_heap
from pyhold.values import kind_name, length, truth
from tests.heaps import EDGE, NONE, heap_of_all


class KindName(unittest.TestCase):
    def test_values(self):
        for value, expected in (
                (NONE, "NoneType"), (("bool", True), "bool"), (("int", 3), "int"),
                (("text", "a"), "str"), (("span", 1, 2), "range"), (("built", "len"), "builtin"),
                (("built", "list.append"), "builtin"), (("host", "ask"), "host")):
            self.assertEqual(kind_name([], value), expected)

    def test_objects(self):
        rows = heap_of_all()
        heap = [found for found, _ in rows]
        for k, (_, expected) in enumerate(rows):
            self.assertEqual(kind_name(heap, ("ref", k)), expected)

    def test_instances_by_their_class(self):
        heap = start_heap(()) + [("class", "Mine", 10, ()), ("inst", 17, ()), ("inst", 7, ())]
        self.assertEqual(kind_name(heap, ("ref", 18)), "Mine")
        self.assertEqual(kind_name(heap, ("ref", 19)), "KeyError")
        self.assertEqual(kind_name(heap, ("ref", 7)), "class")


class Truth(unittest.TestCase):
    def check(self, heap, value, expected):
        self.assertIs(truth(heap, value), expected, value)

    def test_false(self):
        for value in (NONE, ("bool", False), ("int", 0), ("text", ""), ("span", 0, 0), ("span", 5, 5)):
            self.check([], value, False)
        for kind in ("tuple", "list", "dict"):
            self.check([(kind, ())], ("ref", 0), False)

    def test_true(self):
        for value in (("bool", True), ("int", 1), ("int", -1), ("text", "0"), ("text", " "),
                      ("span", 0, 1), ("span", -1, 0), ("built", "len"), ("host", "a")):
            self.check([], value, True)
        for kind in ("tuple", "list"):
            self.check([(kind, (NONE,))], ("ref", 0), True)
        self.check([("dict", ((NONE, NONE),))], ("ref", 0), True)

    def test_all_other_objects_are_true(self):
        rows = heap_of_all()
        heap = [found for found, _ in rows]
        for k in range(3, len(heap)):
            self.check(heap, ("ref", k), True)


class Length(unittest.TestCase):
    def test_example(self):
        heap = [("list", (("int", 1),))]
        self.assertEqual(
            (kind_name(heap, ("ref", 0)), length(heap, ("ref", 0)), truth(heap, ("text", ""))),
            ("list", ("ok", ("int", 1)), False))

    def test_lengths(self):
        heap = [("list", (NONE,) * 3), ("tuple", ()), ("dict", ((NONE, NONE), (("int", 1), NONE)))]
        for value, expected in (
                (("ref", 0), 3), (("ref", 1), 0), (("ref", 2), 2), (("text", ""), 0),
                (("text", "a\nb"), 3), (("span", 3, 9), 6), (("span", 4, 4), 0), (("span", -3, 2), 5)):
            self.assertEqual(length(heap, value), ("ok", ("int", expected)))

    def test_long_spans(self):
        self.assertEqual(length([], ("span", -1, EDGE - 2)), ("ok", ("int", EDGE - 1)))
        refused = ("raise", 4, "integer too large")
        self.assertEqual(length([], ("span", -1, EDGE - 1)), refused)
        self.assertEqual(length([], ("span", 1 - EDGE, EDGE - 1)), refused)

    def test_no_length(self):
        for value, kind in ((NONE, "NoneType"), (("bool", True), "bool"), (("int", 3), "int"),
                            (("built", "len"), "builtin"), (("host", "ask"), "host")):
            self.assertEqual(length([], value), ("raise", 10, "no length: " + kind))
        rows = heap_of_all()
        heap = [found for found, _ in rows]
        for k in range(3, len(heap)):
            self.assertEqual(length(heap, ("ref", k)), ("raise", 10, "no length: " + rows[k][1]))
        self.assertEqual(heap, [found for found, _ in heap_of_all()])


if __name__ == "__main__":
    unittest.main()
