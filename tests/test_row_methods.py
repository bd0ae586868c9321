import unittest

from pyhold.library import plain_built
from tests.built_calls import BuiltCalls
from tests.heaps import DONE, NONE, ints, refs
from tests.machines import machine_of

LONG = list(range(1000))
R0 = ("ref", 0)


class Lists(BuiltCalls, unittest.TestCase):
    def test_append(self):
        self.gives("list.append", ([], 1), None, [1])
        self.gives("list.append", ([1], None), None, [1, None])
        self.gives("list.append", ([1], [2]), None, [1, [2]])
        self.gives("list.append", (LONG[1:], 1), None, LONG[1:] + [1])
        self.too_large("list.append", (LONG, 1))

    def test_append_itself(self):
        heap = [("list", ())]
        self.assertEqual(plain_built(heap, "list.append", (R0, R0)), DONE)
        self.assertEqual(heap, [("list", (R0,))])

    def test_pop(self):
        self.gives("list.pop", ([1, 2, 3],), 3, [1, 2])
        self.gives("list.pop", ([1],), 1, [])
        for index, value, left in (
                (0, 1, [2, 3]), (1, 2, [1, 3]), (2, 3, [1, 2]), (-1, 3, [1, 2]), (-3, 1, [2, 3]),
                (True, 2, [1, 3]), (False, 1, [2, 3])):
            self.gives("list.pop", ([1, 2, 3], index), value, left)

    def test_pop_refused(self):
        self.refuses("list.pop", ([],), 6, "index out of range")
        for index in (0, -1, 1, True):
            self.refuses("list.pop", ([], index), 6, "index out of range")
        for index in (3, -4, 2 ** 255):
            self.refuses("list.pop", ([1, 2, 3], index), 6, "index out of range")
        for row in ([], [1]):
            for index, kind in ((None, "NoneType"), ("0", "str"), ([], "list"), (range(1), "range")):
                self.refuses("list.pop", (row, index), 10, "index is no integer: " + kind)

    def test_insert(self):
        for index in (-5, -4, -3, -2, -1, 0, 1, 2, 3, 4, 2 ** 255, -2 ** 255, True, False):
            row = [1, 2, 3]
            row.insert(max(-9, min(9, index)), "x")
            self.gives("list.insert", ([1, 2, 3], index, "x"), None, row)
            self.gives("list.insert", ([], index, "x"), None, ["x"])
        self.gives("list.insert", (LONG[1:], 0, "x"), None, ["x"] + LONG[1:])
        self.too_large("list.insert", (LONG, 0, 1))

    def test_insert_wants_an_integer(self):
        for index, kind in ((None, "NoneType"), ("0", "str"), ([], "list")):
            self.refuses("list.insert", ([1], index, 1), 10, "list.insert() cannot take " + kind)
            self.refuses("list.insert", (LONG, index, 1), 10, "list.insert() cannot take " + kind)

    def test_remove(self):
        self.gives("list.remove", ([1, 2, 1], 1), None, [2, 1])
        self.gives("list.remove", ([2, True, 1], 1), None, [2, 1])
        self.gives("list.remove", ([0, 1, 2], True), None, [0, 2])
        self.gives("list.remove", ([[1], (1,), [1]], (1,)), None, [[1], [1]])
        self.gives("list.remove", ([None], None), None, [])
        for row, value in (([], 1), ([2, 3], 1), (["1"], 1), ([[1]], (1,))):
            self.refuses("list.remove", (row, value), 11, "not in list")

    def test_index_and_count(self):
        for row, value in (([1, 2, 1], 1), ([1, 2, 1], 2), ([0, True, 1], 1), ([False, 0], 0), ([[1], [1]], [1]),
                           (["a", "b\n"], "b\n"), ([{1: 2}], {True: 2}), ([range(0), range(3, 3)], range(9, 9))):
            self.gives("list.index", (row, value), row.index(value))
            self.gives("list.count", (row, value), row.count(value))
            self.gives("tuple.index", (tuple(row), value), row.index(value))
            self.gives("tuple.count", (tuple(row), value), row.count(value))
        for row, value in (([], 1), ([2, 3], 1), (["1"], 1), ([[1]], (1,)), ([None], 0)):
            self.refuses("list.index", (row, value), 11, "not in list")
            self.refuses("tuple.index", (tuple(row), value), 11, "not in tuple")
            self.gives("list.count", (row, value), 0)
            self.gives("tuple.count", (tuple(row), value), 0)
        self.gives("list.index", (LONG, 999), 999)
        self.gives("list.count", ([1] * 1000, True), 1000)

    def test_instances_are_the_same_only_if_they_are_one(self):
        heap = machine_of().heap + [("class", "Box", -1, ()), ("inst", 17, ()), ("inst", 17, ())]
        heap.append(("list", refs(18, 19, 18)))
        self.assertEqual(plain_built(heap, "list.index", refs(20, 19)), ("ok", ("int", 1)))
        self.assertEqual(plain_built(heap, "list.count", refs(20, 18)), ("ok", ("int", 2)))
        heap.append(("inst", 17, ()))
        self.assertEqual(plain_built(heap, "list.remove", refs(20, 21)), ("raise", 11, "not in list"))
        self.assertEqual(plain_built(heap, "list.remove", refs(20, 18)), DONE)
        self.assertEqual(heap[20], ("list", refs(19, 18)))

    def test_extend(self):
        self.gives("list.extend", ([1], [2, 3]), None, [1, 2, 3])
        self.gives("list.extend", ([1], (2, 3)), None, [1, 2, 3])
        self.gives("list.extend", ([], ()), None, [])
        self.gives("list.extend", (LONG[:400], LONG[:600]), None, LONG[:400] + LONG[:600])
        self.too_large("list.extend", (LONG[:400], LONG[:601]))
        for row, kind in (("ab", "str"), ({}, "dict"), (range(2), "range"), (None, "NoneType"), (1, "int")):
            self.refuses("list.extend", ([1], row), 10, "list.extend() cannot take " + kind)

    def test_extend_by_itself(self):
        heap = [("list", ints(1, 2))]
        self.assertEqual(plain_built(heap, "list.extend", (R0, R0)), DONE)
        self.assertEqual(heap, [("list", ints(1, 2, 1, 2))])
        heap = [("list", (NONE,) * 501)]
        self.assertEqual(plain_built(heap, "list.extend", (R0, R0)), ("raise", 15, "too large"))
        self.assertEqual(heap, [("list", (NONE,) * 501)])

    def test_reverse(self):
        for row in ([], [1], [1, 2], [3, 1, 2]):
            self.gives("list.reverse", (row,), None, row[::-1])

    def test_copy(self):
        for row in ([], [1, [2]], LONG):
            self.gives("list.copy", (row,), row, objects=1)
        heap = [("list", (R0,))]
        self.assertEqual(plain_built(heap, "list.copy", (R0,)), ("ok", ("ref", 1)))
        self.assertEqual(heap, [("list", (R0,)), ("list", (R0,))])

    def test_clear(self):
        for row in ([], [1, [2]], LONG):
            self.gives("list.clear", (row,), None, [])

    def test_lists_are_not_changed_in_place(self):
        row = ("list", ints(1, 2))
        for name, args in (("append", (NONE,)), ("pop", ()), ("insert", (("int", 0), NONE)), ("reverse", ()),
                           ("remove", ints(1)), ("extend", (R0,)), ("clear", ())):
            heap = [row]
            self.assertEqual(plain_built(heap, "list." + name, (R0,) + args)[0], "ok")
            self.assertEqual(row, ("list", ints(1, 2)))
            self.assertNotEqual(heap, [row])


if __name__ == "__main__":
    unittest.main()
