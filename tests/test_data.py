"""Host data (r1 to r4), each bound and one beyond it."""

import unittest

from pyhold.core import CHARACTERS, start_heap
from pyhold.data import copied_data, goes, is_data, put_data, same_data, take_data
from pyhold.errors import BadData
from tests.heaps import EDGE, NONE, all_kinds, ints
from tests.steps import Programs


def deep(kind, levels, leaf=1):
    """Data of so many levels."""
    data = leaf
    for _ in range(levels - 1):
        data = {"list": [data], "tuple": (data,), "dict": {"a": data}, "key": (data,)}[kind]
    return data


GOOD = (
    None, True, False, 0, -1, EDGE - 1, 1 - EDGE, "", "a", "x" * 1000, CHARACTERS, "\n ~",
    [], (), {}, [1, "a", None], (True, (), [{}]), {"a": 1, None: 2, True: 3, 5: 4, (1, ("b", None)): [5]},
    deep("list", 6), deep("tuple", 6), deep("dict", 6), {deep("key", 5): 1}, [{deep("key", 4): 1}],
    [1] * 999, (1,) * 999, [[1] * 499, [1] * 498], {k: k for k in range(499)},
    {(1,) * 997: 1}, [[]] * 999, [""] * 999)

BAD = (
    EDGE, -EDGE, "x" * 1001, "%", "a%", "\t", "\r", "\x7f", "\x00", "\u00e9", "\u2028", "a\u00e9",
    1.0, 1.5, 1j, b"", b"a", set(), frozenset(), object(), len, int, range(3), ..., bytearray(),
    [EDGE], (1.0,), {"a": "%"}, {"%": 1}, {EDGE: 1}, {1.5: 1}, {frozenset(): 1}, {b"": 1}, {("a", "%"): 1},
    {((1.0,),): 1}, {len: 1},
    deep("list", 7), deep("tuple", 7), deep("dict", 7), {deep("key", 6): 1}, [{deep("key", 5): 1}],
    [1] * 1000, (1,) * 1000, [[1] * 499, [1] * 499], {k: k for k in range(500)}, {(1,) * 998: 1},
    [1] * 5000, ["x" * 1001], {"x" * 1001: 1}, {1: EDGE}, {1: [-EDGE]})


class Data(unittest.TestCase):
    def test_what_is_data(self):
        for data in GOOD:
            self.assertIs(is_data(data), True, repr(data)[:60])

    def test_what_is_not(self):
        for data in BAD:
            self.assertIs(is_data(data), False, repr(data)[:60])

    def test_each_character(self):
        for k in range(1, 300):
            expected = k == 10 or (32 <= k <= 126 and k != 37)
            self.assertIs(is_data("a" + chr(k)), expected, k)
            self.assertIs(is_data({chr(k): 1}), expected, k)

    def test_lists_and_dicts_are_no_keys(self):
        class List(list):
            __hash__ = object.__hash__

        class Dict(dict):
            __hash__ = object.__hash__

        for key in (List(), Dict()):
            self.assertIs(is_data([key]), True)
            for data in ({key: 1}, {(key,): 1}, [{(1, (key,)): 1}]):
                self.assertIs(is_data(data), False)

    def test_what_contains_itself(self):
        ring = [1]
        ring.append(ring)
        table = {}
        table["a"] = table
        for data in (ring, table, [ring], (ring,)):
            self.assertIs(is_data(data), False)

    def test_size_counts_keys(self):
        data = {(k, k): [k] for k in range(199)}
        # 1 and for each entry 3 for the key and 2 for the value.
        self.assertIs(is_data(data), True)
        self.assertIs(is_data([data, 1, 1]), True)
        self.assertIs(is_data([data, 1, 1, 1]), True)
        self.assertIs(is_data([data, 1, 1, 1, 1]), False)

    def test_a_wide_one_many_times(self):
        row = [1] * 900
        self.assertIs(is_data([row]), True)
        self.assertIs(is_data([row, row]), False)
        for _ in range(4):
            row = [row] * 900
        self.assertIs(is_data(row), False)


class Put(unittest.TestCase):
    def put(self, data):
        heap = [("list", ())]
        value = put_data(heap, data)
        self.assertEqual(heap[0], ("list", ()))
        return value, heap[1:]

    def test_leaves(self):
        for data, value in ((None, NONE), (True, ("bool", True)), (False, ("bool", False)), (1, ("int", 1)),
                            (0, ("int", 0)), ("a", ("text", "a"))):
            found, made = self.put(data)
            self.assertEqual((repr(found), made), (repr(value), []))

    def test_the_example(self):
        heap = []
        self.assertEqual(
            (put_data(heap, [1, ("a",)]), heap),
            (("ref", 1), [("tuple", (("text", "a"),)), ("list", (("int", 1), ("ref", 0)))]))

    def test_parts_ahead_in_their_order(self):
        self.assertEqual(self.put([[1], (2,), {}]), (("ref", 4), [
            ("list", ints(1)), ("tuple", ints(2)), ("dict", ()),
            ("list", (("ref", 1), ("ref", 2), ("ref", 3)))]))

    def test_keys_ahead_of_values(self):
        self.assertEqual(self.put({(1,): [2], "a": (3,)}), (("ref", 4), [
            ("tuple", ints(1)), ("list", ints(2)), ("tuple", ints(3)),
            ("dict", ((("ref", 1), ("ref", 2)), (("text", "a"), ("ref", 3))))]))

    def test_twice_the_same(self):
        row = [1]
        self.assertEqual(self.put((row, row)), (("ref", 3), [
            ("list", ints(1)), ("list", ints(1)), ("tuple", (("ref", 1), ("ref", 2)))]))

    def test_no_data(self):
        for data in BAD:
            heap = [("list", ())]
            with self.assertRaises(BadData):
                put_data(heap, data)
            self.assertEqual(heap, [("list", ())])

    def test_a_part_that_is_no_data(self):
        heap = []
        with self.assertRaises(BadData):
            put_data(heap, [[1], (2,), 1.5])
        self.assertEqual(heap, [])

    def test_data_stay_as_they_are(self):
        data = [1, {"a": [2]}]
        put_data([], data)
        self.assertEqual(data, [1, {"a": [2]}])


class Take(unittest.TestCase):
    def test_back(self):
        for data in GOOD:
            heap = start_heap(())
            value = put_data(heap, data)
            before = list(heap)
            self.assertIs(goes(heap, (value,)), True)
            self.assertTrue(same_data(take_data(heap, value), data), repr(data)[:60])
            self.assertEqual(heap, before)

    def refused(self, heap, value):
        self.assertIs(goes(heap, (value,)), False, value)
        with self.assertRaises(BadData):
            take_data(heap, value)

    def test_what_does_not_go_out(self):
        heap, kinds = all_kinds()
        for value, kind in kinds:
            if kind in ("NoneType", "bool", "int", "str", "list", "tuple", "dict"):
                self.assertIs(goes(heap, (value,)), True, kind)
                continue
            self.refused(heap, value)
            for made in (("list", (value,)), ("tuple", (ints(1)[0], value)), ("dict", ((("int", 1), value),))):
                heap.append(made)
                self.refused(heap, ("ref", len(heap) - 1))

    def test_twice_the_same(self):
        heap = [("list", ints(1)), ("list", (("ref", 0), ("ref", 0)))]
        data = take_data(heap, ("ref", 1))
        self.assertEqual(data, [[1], [1]])
        self.assertIsNot(data[0], data[1])

    def test_lists_and_dicts_are_no_keys(self):
        heap = [("list", ()), ("dict", ()), ("tuple", (("ref", 0),)), ("tuple", (("ref", 1),))]
        for k in range(4):
            self.assertIs(goes(heap, (("ref", k),)), True)
            self.refused(heap + [("dict", ((("ref", k), NONE),))], ("ref", 4))

    def test_what_contains_itself(self):
        one = ("int", 1)
        for ring in ([("list", (("ref", 0),))], [("list", (one, ("ref", 0)))],
                     [("tuple", (("ref", 1),)), ("list", (("ref", 0),))],
                     [("dict", ((one, ("ref", 0)),))]):
            self.refused(ring, ("ref", 0))

    def nested(self, levels, kind="list"):
        heap = []
        for k in range(levels):
            heap.append((kind, ((("int", 1), ("ref", k - 1)) if kind == "dict" else ("ref", k - 1),)))
        heap[0] = (kind, ())
        return heap

    def test_levels(self):
        for kind in ("list", "tuple", "dict"):
            self.assertIs(goes(self.nested(6, kind), (("ref", 5),)), True)
            self.refused(self.nested(7, kind), ("ref", 6))

    def test_levels_of_keys(self):
        heap = self.nested(6, "tuple")
        heap.append(("dict", ((("ref", 4), ("int", 1)),)))
        self.assertIs(goes(heap, (("ref", 6),)), True)
        heap.append(("dict", ((("ref", 5), ("int", 1)),)))
        self.refused(heap, ("ref", 7))

    def test_size(self):
        heap = [("list", ints(*range(999))), ("list", ints(*range(1000))), ("list", (("ref", 0),))]
        self.assertEqual(take_data(heap, ("ref", 0)), list(range(999)))
        self.refused(heap, ("ref", 1))
        self.refused(heap, ("ref", 2))
        entries = tuple((("int", k), NONE) for k in range(500))
        self.assertIs(goes([("dict", entries[:499])], (("ref", 0),)), True)
        self.refused([("dict", entries)], ("ref", 0))

    def test_the_bounds_hold_for_each(self):
        heap = [("list", ints(*range(999)))]
        self.assertIs(goes(heap, (("ref", 0),) * 5), True)
        self.assertIs(goes(heap, ()), True)
        self.assertIs(goes(heap, (("ref", 0), ("span", 0, 1), ("ref", 0))), False)

    def test_new_each_time(self):
        heap = [("list", ints(1))]
        data = take_data(heap, ("ref", 0))
        data.append(2)
        self.assertEqual(take_data(heap, ("ref", 0)), [1])

    def test_the_order_of_entries(self):
        heap = [("dict", ((("int", 2), NONE), (("int", 1), NONE), (("text", "a"), NONE)))]
        self.assertEqual(list(take_data(heap, ("ref", 0))), [2, 1, "a"])


class Same(unittest.TestCase):
    def test_the_same(self):
        for data in GOOD:
            self.assertIs(same_data(data, copied_data(data)), True)
            self.assertIs(same_data(copied_data(data), data), True)

    def test_others(self):
        groups = (
            None, True, False, 0, 1, -1, "", "a", "1", "None", [], (), {}, [1], (1,), [True], (True,), [[]],
            [()], ([],), [1, 2], [2, 1], (1, 2), [1, 2, 3], {1: 2}, {True: 2}, {1: True}, {"1": 2},
            {1: 2, 3: 4}, {3: 4, 1: 2}, {1: 2, 3: 5}, {(1,): 2}, {(True,): 2}, {1: [2]}, {1: (2,)}, [0], [False],
            [None], {"a": {"b": 1, "c": 2}}, {"a": {"c": 2, "b": 1}})
        for at, one in enumerate(groups):
            for place, other in enumerate(groups):
                self.assertIs(same_data(one, other), at == place, (one, other))

    def test_a_copy_is_of_its_own(self):
        data = [1, {"a": [2]}]
        copy = copied_data(data)
        copy[1]["a"].append(3)
        self.assertEqual(data, [1, {"a": [2]}])


class InPrograms(Programs, unittest.TestCase):
    """r4, and the level and size of arguments as a program makes them."""

    def test_levels(self):
        self.gives("ask([[[[[1]]]]])\n", hosts=("ask",), replies=(1,))
        self.gives("ask([[[[[[]]]]]])\n", hosts=("ask",), replies=(1,))
        self.gives("ask([[[[[[1]]]]]])\n", ends="TypeError: 'argument cannot go out'", hosts=("ask",))
        self.gives("ask({((((1,),),),): 1})\n", hosts=("ask",), replies=(1,))
        self.gives("ask({(((((1,),),),),): 1})\n", ends="TypeError: 'argument cannot go out'", hosts=("ask",))

    def test_size(self):
        self.gives("ask([1] * 999, [2] * 999)\n", hosts=("ask",), replies=(1,))
        self.gives("ask(1, [1] * 1000)\n", ends="TypeError: 'argument cannot go out'", hosts=("ask",))

    def test_kinds(self):
        for value in ("range(3)", "len", "ask", "KeyError", "KeyError()", "[].append", "iter([])", "[(len,)]"):
            self.gives(
                f"try:\n    ask(1, {value})\nexcept TypeError as e:\n    print(e.args)\n",
                "('argument cannot go out',)", hosts=("ask",))
        self.gives(
            "a = []\na.append(a)\ntry:\n    ask(a)\nexcept TypeError as e:\n    print(e.args)\n",
            "('argument cannot go out',)", hosts=("ask",))


if __name__ == "__main__":
    unittest.main()
