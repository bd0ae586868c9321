import unittest

from pyhold.core import start_heap
from pyhold.items import drop_item, item, part, put_item
from tests.heaps import DONE, EDGE, NO, NONE, TOO_LARGE, YES, ints, nested, refs, texts

OUT_OF_RANGE = ("raise", 6, "index out of range")
R0 = ("ref", 0)
R1 = ("ref", 1)


def is_no_integer(kind):
    return ("raise", 10, "index is no integer: " + kind)


class Item(unittest.TestCase):
    def test_example(self):
        self.assertEqual(item([], ("span", 3, 9), ("int", -1)), ("ok", ("int", 8)))

    def test_rows(self):
        for kind in ("list", "tuple"):
            heap = [(kind, texts("a", "b", "c"))]
            for index, expected in (
                    (("int", 0), "a"), (("int", 2), "c"), (("int", -1), "c"), (("int", -3), "a"),
                    (NO, "a"), (YES, "b")):
                self.assertEqual(item(heap, R0, index), ("ok", ("text", expected)))
            for index in (3, -4, EDGE - 1, 1 - EDGE):
                self.assertEqual(item(heap, R0, ("int", index)), OUT_OF_RANGE)
            self.assertEqual(heap, [(kind, texts("a", "b", "c"))])

    def test_texts(self):
        for index, expected in ((0, "a"), (1, "\n"), (2, "c"), (-1, "c"), (-3, "a")):
            self.assertEqual(item([], ("text", "a\nc"), ("int", index)), ("ok", ("text", expected)))
        for index in (3, -4):
            self.assertEqual(item([], ("text", "a\nc"), ("int", index)), OUT_OF_RANGE)
        self.assertEqual(item([], ("text", "abc"), YES), ("ok", ("text", "b")))

    def test_spans(self):
        for index, expected in ((0, -3), (4, 1), (-1, 1), (-5, -3)):
            self.assertEqual(item([], ("span", -3, 2), ("int", index)), ("ok", ("int", expected)))
        for index in (5, -6):
            self.assertEqual(item([], ("span", -3, 2), ("int", index)), OUT_OF_RANGE)
        self.assertEqual(item([], ("span", 3, 9), YES), ("ok", ("int", 4)))
        long = ("span", 1 - EDGE, EDGE - 1)
        self.assertEqual(item([], long, ("int", EDGE - 1)), ("ok", ("int", 0)))
        self.assertEqual(item([], long, ("int", -1)), ("ok", ("int", EDGE - 2)))

    def test_empty_rows(self):
        heap = [("list", ()), ("tuple", ())]
        for a in (R0, R1, ("text", ""), ("span", 4, 4)):
            for index in (0, -1):
                self.assertEqual(item(heap, a, ("int", index)), OUT_OF_RANGE)
            self.assertEqual(item(heap, a, ("text", "0")), is_no_integer("str"))

    def test_dicts(self):
        heap = [
            ("dict", ((("int", 1), ("text", "a")), (NONE, ("text", "b")), (R1, ("text", "c")),
                      (("text", "1"), ("text", "d")))),
            ("tuple", ints(1, 2)), ("tuple", (YES, ("int", 2))), ("tuple", ints(2, 1))]
        before = list(heap)
        for key, expected in (
                (("int", 1), "a"), (YES, "a"), (NONE, "b"), (R1, "c"), (("ref", 2), "c"),
                (("text", "1"), "d")):
            self.assertEqual(item(heap, R0, key), ("ok", ("text", expected)))
        for key, shown in (
                (("int", 0), "0"), (NO, "False"), (("text", "it's\n"), '"it\'s\\n"'),
                (("ref", 3), "(2, 1)"), (("int", -7), "-7")):
            self.assertEqual(item(heap, R0, key), ("raise", 7, shown))
        self.assertEqual(heap, before)

    def test_the_key_is_looked_at_first(self):
        heap = [("dict", ()), ("list", ()), ("tuple", (R1,))] + nested("tuple", 3)
        self.assertEqual(item(heap, R0, R1), ("raise", 10, "not a key: list"))
        self.assertEqual(item(heap, R0, ("ref", 2)), ("raise", 10, "not a key: tuple"))
        heap.append(("tuple", (NONE,) * 1000))
        last = ("ref", len(heap) - 1)
        for outcome in (item(heap, R0, last), put_item(heap, R0, last, NONE), drop_item(heap, R0, last)):
            self.assertEqual(outcome, TOO_LARGE)
        self.assertEqual(heap[0], ("dict", ()))

    def test_a_key_that_is_too_long_to_be_shown(self):
        heap = [("dict", ())]
        for key, expected in (
                ("a" * 998, ("raise", 7, "'" + "a" * 998 + "'")), ("a" * 999, TOO_LARGE),
                ("\n" * 499, ("raise", 7, "'" + "\\n" * 499 + "'")), ("\n" * 500, TOO_LARGE)):
            self.assertEqual(item(heap, R0, ("text", key)), expected)
            self.assertEqual(drop_item(heap, R0, ("text", key)), expected)
        self.assertEqual(heap, [("dict", ())])
        heap.append(("tuple", (NONE,) * 999))
        self.assertEqual(item(heap, R0, R1), TOO_LARGE)

    def test_deep_keys(self):
        heap = nested("tuple", 1000)
        deep = ("ref", len(heap) - 1)
        heap.append(("dict", ((deep, ("int", 1)),)))
        self.assertEqual(item(heap, ("ref", len(heap) - 1), deep), ("ok", ("int", 1)))
        heap.append(("dict", ()))
        self.assertEqual(item(heap, ("ref", len(heap) - 1), deep), TOO_LARGE)
        heap.append(("tuple", (deep,)))
        self.assertEqual(item(heap, ("ref", len(heap) - 2), ("ref", len(heap) - 1)), TOO_LARGE)

    def test_in_themselves(self):
        heap = [("list", (R0, R1)), ("tuple", (R1, R0)), ("dict", ((("int", 1), ("ref", 2)),))]
        self.assertEqual(item(heap, R0, ("int", 0)), ("ok", R0))
        self.assertEqual(item(heap, R1, ("int", -1)), ("ok", R0))
        self.assertEqual(item(heap, ("ref", 2), ("int", 1)), ("ok", ("ref", 2)))
        self.assertEqual(item(heap, ("ref", 2), R1), TOO_LARGE)
        heap[1] = ("tuple", (R0, R1))
        self.assertEqual(item(heap, ("ref", 2), R1), ("raise", 10, "not a key: tuple"))
        self.assertEqual(item(heap, R0, R0), is_no_integer("list"))


class PutItem(unittest.TestCase):
    def test_example(self):
        heap = [("dict", ((("int", 1), ("text", "a")),))]
        outcome = put_item(heap, R0, YES, ("text", "b"))
        self.assertEqual((outcome, heap), (DONE, [("dict", ((("int", 1), ("text", "b")),))]))
        self.assertEqual(heap[0][1][0][0][0], "int")

    def test_lists(self):
        for index, expected in (
                (("int", 0), texts("x", "b", "c")), (("int", 2), texts("a", "b", "x")),
                (("int", -1), texts("a", "b", "x")), (("int", -3), texts("x", "b", "c")),
                (YES, texts("a", "x", "c")), (NO, texts("x", "b", "c"))):
            heap = [("list", texts("a", "b", "c")), ("list", texts("a", "b", "c"))]
            self.assertEqual(put_item(heap, R0, index, ("text", "x")), DONE)
            self.assertEqual(heap, [("list", expected), ("list", texts("a", "b", "c"))])

    def test_lists_refused(self):
        heap = [("list", ints(1, 2)), ("list", ())]
        before = list(heap)
        for index in (2, -3, EDGE - 1):
            self.assertEqual(put_item(heap, R0, ("int", index), NONE), OUT_OF_RANGE)
        self.assertEqual(put_item(heap, R1, ("int", 0), NONE), OUT_OF_RANGE)
        self.assertEqual(put_item(heap, R1, NONE, NONE), is_no_integer("NoneType"))
        self.assertEqual(heap, before)

    def test_dicts(self):
        heap = [("dict", ())]
        for key, worth in ((("text", "b"), 1), (NONE, 2), (("text", "a"), 3), (("text", "b"), 4), (NO, 5),
                           (("int", 0), 6)):
            self.assertEqual(put_item(heap, R0, key, ("int", worth)), DONE)
        self.assertEqual(heap, [("dict", (
            (("text", "b"), ("int", 4)), (NONE, ("int", 2)), (("text", "a"), ("int", 3)),
            (NO, ("int", 6))))])

    def test_keys_of_tuples_stay(self):
        heap = [("dict", ((R1, NONE),)), ("tuple", ints(1)), ("tuple", (YES,))]
        self.assertEqual(put_item(heap, R0, ("ref", 2), YES), DONE)
        self.assertEqual(heap[0], ("dict", ((R1, YES),)))

    def test_objects_are_not_changed_in_place(self):
        heap = [("list", ints(1, 2)), ("dict", ((NONE, NONE),))]
        one, other = heap
        put_item(heap, R0, ("int", 0), NONE)
        put_item(heap, R1, NONE, YES)
        self.assertEqual((one, other), (("list", ints(1, 2)), ("dict", ((NONE, NONE),))))
        self.assertEqual(heap, [("list", (NONE, ("int", 2))), ("dict", ((NONE, YES),))])

    def test_bound(self):
        heap = [("dict", tuple((("int", n), NONE) for n in range(999))), ("list", ())]
        self.assertEqual(put_item(heap, R0, ("int", 999), NONE), DONE)
        full = heap[0]
        self.assertEqual(len(full[1]), 1000)
        self.assertEqual(put_item(heap, R0, ("int", 1000), NONE), TOO_LARGE)
        self.assertEqual(put_item(heap, R0, R1, NONE), ("raise", 10, "not a key: list"))
        self.assertIs(heap[0], full)
        self.assertEqual(put_item(heap, R0, ("int", 500), YES), DONE)
        self.assertEqual(heap[0][1][500], (("int", 500), YES))
        self.assertEqual(len(heap[0][1]), 1000)
        heap[1] = ("list", (NONE,) * 1000)
        self.assertEqual(put_item(heap, R1, ("int", 999), YES), DONE)
        self.assertEqual(heap[1], ("list", (NONE,) * 999 + (YES,)))

    def test_in_themselves(self):
        heap = [("list", ints(1)), ("dict", ())]
        self.assertEqual(put_item(heap, R0, ("int", 0), R0), DONE)
        self.assertEqual(put_item(heap, R1, NONE, R1), DONE)
        self.assertEqual(heap, [("list", (R0,)), ("dict", ((NONE, R1),))])


class DropItem(unittest.TestCase):
    def test_example(self):
        heap = [("list", ints(1, 2))]
        outcome = drop_item(heap, R0, ("int", 5))
        self.assertEqual((outcome, heap), (OUT_OF_RANGE, [("list", ints(1, 2))]))

    def test_lists(self):
        for index, expected in (
                (("int", 0), texts("b", "c")), (("int", 2), texts("a", "b")),
                (("int", -1), texts("a", "b")), (("int", -3), texts("b", "c")),
                (YES, texts("a", "c"))):
            heap = [("list", texts("a", "b", "c"))]
            before = heap[0]
            self.assertEqual(drop_item(heap, R0, index), DONE)
            self.assertEqual(heap, [("list", expected)])
            self.assertEqual(before, ("list", texts("a", "b", "c")))
        for index in (3, -4):
            heap = [("list", texts("a", "b", "c"))]
            self.assertEqual(drop_item(heap, R0, ("int", index)), OUT_OF_RANGE)
            self.assertEqual(drop_item(heap, R0, NONE), is_no_integer("NoneType"))
            self.assertEqual(heap, [("list", texts("a", "b", "c"))])

    def test_dicts(self):
        heap = [("dict", ((("int", 1), NONE), (R1, YES), (("text", "a"), NO))), ("tuple", ())]
        self.assertEqual(drop_item(heap, R0, ("int", 0)), ("raise", 7, "0"))
        self.assertEqual(drop_item(heap, R0, ("text", "b")), ("raise", 7, "'b'"))
        self.assertEqual(len(heap[0][1]), 3)
        self.assertEqual(drop_item(heap, R0, R1), DONE)
        self.assertEqual(heap[0], ("dict", ((("int", 1), NONE), (("text", "a"), NO))))
        self.assertEqual(drop_item(heap, R0, R1), ("raise", 7, "()"))
        self.assertEqual(drop_item(heap, R0, YES), DONE)
        self.assertEqual(heap[0], ("dict", ((("text", "a"), NO),)))
        self.assertEqual(put_item(heap, R0, YES, NONE), DONE)
        self.assertEqual(heap[0], ("dict", ((("text", "a"), NO), (YES, NONE))))

    def test_a_key_comes_to_the_end_when_it_comes_again(self):
        heap = [("dict", ((("int", 1), NONE), (("int", 2), NONE)))]
        drop_item(heap, R0, ("int", 1))
        put_item(heap, R0, ("int", 1), NONE)
        self.assertEqual(heap, [("dict", ((("int", 2), NONE), (("int", 1), NONE)))])

    def test_no_keys(self):
        heap = [("dict", ()), ("list", ())]
        self.assertEqual(drop_item(heap, R0, R1), ("raise", 10, "not a key: list"))


class Part(unittest.TestCase):
    def test_example(self):
        self.assertEqual(part([], ("text", "abc"), ("int", -2), NONE), ("ok", ("text", "bc")))

    def test_all_bounds(self):
        for row in ("", "a", "abcd"):
            for low in (None, -6, -5, -4, -3, -1, 0, 1, 3, 4, 5, 1 - EDGE, EDGE - 1):
                for high in (None, -6, -5, -4, -2, -1, 0, 1, 2, 4, 5, 1 - EDGE, EDGE - 1):
                    self.check(row, low, high)

    def check(self, row, low, high):
        bounds = [NONE if n is None else ("int", n) for n in (low, high)]
        expected = row[low:high]
        self.assertEqual(part([], ("text", row), *bounds), ("ok", ("text", expected)))
        for kind in ("list", "tuple"):
            heap = [(kind, texts(*row))]
            self.assertEqual(part(heap, R0, *bounds), ("ok", R1))
            self.assertEqual(heap, [(kind, texts(*row)), (kind, texts(*expected))])

    def test_booleans(self):
        heap = [("list", ints(1, 2, 3))]
        for low, high, expected in (
                (YES, NONE, ints(2, 3)), (NO, YES, ints(1)), (YES, ("int", -1), ints(2)),
                (NO, NO, ()), (NONE, YES, ints(1))):
            self.assertEqual(part(heap, R0, low, high), ("ok", ("ref", len(heap) - 1)))
            self.assertEqual(heap[-1], ("list", expected))

    def test_an_integer_is_added_once(self):
        self.assertEqual(part([], ("text", "abc"), ("int", -5), ("int", -4)), ("ok", ("text", "")))
        self.assertEqual(part([], ("text", "abc"), ("int", -5), ("int", -1)), ("ok", ("text", "ab")))

    def test_the_order_of_refusals(self):
        heap = [("dict", ()), ("list", ())]
        no_integer = "slice bound is no integer: "
        self.assertEqual(part(heap, R0, R0, R1), ("raise", 10, "no slices: dict"))
        self.assertEqual(part(heap, ("span", 0, 3), R0, R1), ("raise", 10, "no slices: range"))
        self.assertEqual(part(heap, R1, R0, R1), ("raise", 10, no_integer + "dict"))
        self.assertEqual(part(heap, R1, NONE, R1), ("raise", 10, no_integer + "list"))
        self.assertEqual(part(heap, R1, ("int", 1), ("text", "1")), ("raise", 10, no_integer + "str"))
        self.assertEqual(heap, [("dict", ()), ("list", ())])

    def test_a_whole_row_is_new(self):
        for kind in ("list", "tuple"):
            heap = [(kind, refs(0, 0))]
            self.assertEqual(part(heap, R0, NONE, NONE), ("ok", R1))
            self.assertEqual(heap, [(kind, refs(0, 0))] * 2)

    def test_long_rows(self):
        heap = [("list", (NONE,) * 1000)]
        self.assertEqual(part(heap, R0, ("int", -1000), ("int", 1000)), ("ok", R1))
        self.assertEqual(heap[1], heap[0])


class NoItems(unittest.TestCase):
    def test_instances_by_their_class(self):
        heap = start_heap(()) + [("inst", 11, ())]
        self.assertEqual(item(heap, ("ref", 17), NONE), ("raise", 10, "no items: ValueError"))
        self.assertEqual(part(heap, ("ref", 17), NONE, NONE), ("raise", 10, "no slices: ValueError"))


if __name__ == "__main__":
    unittest.main()
