import unittest

from pyhold.library import plain_built
from tests.built_calls import BuiltCalls
from tests.heaps import DONE, NO, NONE, TOO_LARGE, YES, ints, refs
from tests.machines import machine_of

LONG = {n: n for n in range(1000)}
SOME = {1: "a", "b": 2, None: 3, (1, 2): 4}
NO_KEYS = (([], "list"), ({}, "dict"), (range(2), "range"), ((1, []), "tuple"))
R0 = ("ref", 0)


class Dicts(BuiltCalls, unittest.TestCase):
    def test_get(self):
        for key in list(SOME) + [True, (True, 2), "x", 2, False, (), "1"]:
            self.gives("dict.get", (SOME, key), SOME.get(key))
            self.gives("dict.get", (SOME, key, "other"), SOME.get(key, "other"))
        self.gives("dict.get", ({}, 1, [2]), [2])

    def test_pop(self):
        for key in list(SOME) + [True, (True, 2)]:
            left = dict(SOME)
            worth = left.pop(key)
            self.gives("dict.pop", (SOME, key), worth, left)
            self.gives("dict.pop", (SOME, key, "other"), worth, left)
        for key in ("x", 2, False, ()):
            self.gives("dict.pop", (SOME, key, "other"), "other")
            self.refuses("dict.pop", (SOME, key), 7, repr(key))
            self.refuses("dict.pop", ({}, key), 7, repr(key))

    def test_pop_of_a_key_that_cannot_be_shown(self):
        self.refuses("dict.pop", ({}, "a" * 998), 7, "'" + "a" * 998 + "'")
        self.too_large("dict.pop", ({}, "a" * 999))
        self.gives("dict.pop", ({}, "a" * 999, 1), 1)
        self.gives("dict.get", ({}, "a" * 999), None)

    def test_setdefault(self):
        for key in list(SOME) + [True, (True, 2)]:
            self.gives("dict.setdefault", (SOME, key, "other"), SOME[key])
        for key in ("x", 2, False, ()):
            self.gives("dict.setdefault", (SOME, key, "other"), "other", {**SOME, key: "other"})
        self.gives("dict.setdefault", ({}, 1, [2]), [2], {1: [2]})

    def test_setdefault_of_a_full_one(self):
        self.gives("dict.setdefault", (LONG, 999, 5), 999)
        self.gives("dict.setdefault", (LONG, True, 5), 1)
        self.too_large("dict.setdefault", (LONG, 1000, 5))
        less = dict(list(LONG.items())[1:])
        self.gives("dict.setdefault", (less, 0, 5), 5, {**less, 0: 5})

    def test_keys_are_refused(self):
        for key, kind in NO_KEYS:
            for row in ({}, LONG):
                for name, more in (("get", ()), ("get", (1,)), ("pop", ()), ("pop", (1,)), ("setdefault", (1,))):
                    self.refuses("dict." + name, (row, key) + more, 10, "not a key: " + kind)
        for name, more in (("get", ()), ("get", (1,)), ("pop", ()), ("pop", (1,)), ("setdefault", (1,))):
            self.too_large("dict." + name, ({}, (None,) * 1000) + more)

    def test_update(self):
        for one, other in (({}, {}), ({}, SOME), (SOME, {}), (SOME, {"x": 1, 1: "new", "y": 2}),
                           ({1: 2}, {True: 3, False: 4}), ({True: 2}, {1: 3}), ({(1,): 2}, {(True,): 3})):
            self.gives("dict.update", (one, other), None, {**one, **other})

    def test_an_old_key_keeps_its_place(self):
        heap = [("dict", ((("int", 1), NONE), (("int", 2), NONE))),
                ("dict", ((("int", 3), YES), (YES, YES), (("int", 2), NO)))]
        self.assertEqual(plain_built(heap, "dict.update", refs(0, 1)), DONE)
        self.assertEqual(heap[0][1], ((("int", 1), YES), (("int", 2), NO), (("int", 3), YES)))
        self.assertEqual(heap[0][1][0][0][0], "int")
        self.assertEqual(len(heap), 2)

    def test_update_by_itself(self):
        heap = [("dict", ((NONE, R0), (YES, NO)))]
        self.assertEqual(plain_built(heap, "dict.update", refs(0, 0)), DONE)
        self.assertEqual(heap, [("dict", ((NONE, R0), (YES, NO)))])

    def test_all_or_none(self):
        other = {n: "new" for n in range(500, 1001)}
        self.too_large("dict.update", (LONG, other))
        self.too_large("dict.update", (other, LONG))
        del other[1000]
        self.gives("dict.update", (LONG, other), None, {**LONG, **other})
        self.gives("dict.update", (LONG, LONG), None, LONG)
        self.gives("dict.update", ({}, LONG), None, LONG)

    def test_update_wants_a_dict(self):
        for row, kind in (([], "list"), ((), "tuple"), ("", "str"), (None, "NoneType"), (range(1), "range")):
            self.refuses("dict.update", ({1: 2}, row), 10, "dict.update() cannot take " + kind)

    def test_keys_and_values(self):
        for row in ({}, SOME, {"b": [1], "a": [1]}, LONG):
            self.gives("dict.keys", (row,), list(row), objects=1)
            self.gives("dict.values", (row,), list(row.values()), objects=1)
            self.gives("dict.items", (row,), list(row.items()), objects=1 + len(row))

    def test_the_objects_of_items(self):
        heap = [("dict", ((("int", 1), R0), (NONE, ("text", "a"))))]
        self.assertEqual(plain_built(heap, "dict.items", (R0,)), ("ok", ("ref", 3)))
        self.assertEqual(heap[1:], [
            ("tuple", (("int", 1), R0)), ("tuple", (NONE, ("text", "a"))), ("list", refs(1, 2))])

    def test_copy(self):
        for row in ({}, SOME, LONG):
            self.gives("dict.copy", (row,), row, objects=1)

    def test_clear(self):
        for row in ({}, SOME, LONG):
            self.gives("dict.clear", (row,), None, {})

    def test_instances_are_no_keys(self):
        machine = machine_of()
        machine.heap.extend([("class", "Box", -1, ()), ("inst", 17, ()), ("dict", ())])
        for name, more in (("get", ()), ("get", (NONE,)), ("pop", (NONE,)), ("pop", ()), ("setdefault", (NONE,))):
            self.assertEqual(
                plain_built(machine.heap, "dict." + name, refs(19, 18) + more), ("raise", 10, "not a key: Box"))

    def test_dicts_are_not_changed_in_place(self):
        row = ("dict", ((("int", 1), NONE),))
        for name, args in (("pop", ints(1)), ("setdefault", ints(2, 2)), ("update", (("ref", 1),)), ("clear", ())):
            heap = [row, ("dict", ((NONE, NONE),))]
            self.assertEqual(plain_built(heap, "dict." + name, (R0,) + args)[0], "ok")
            self.assertEqual(row, ("dict", ((("int", 1), NONE),)))
            self.assertNotEqual(heap[0], row)

    def test_deep_keys(self):
        heap = [("tuple", ())]
        for k in range(999):
            heap.append(("tuple", (("ref", k),)))
        heap.extend([("dict", ((("ref", 999), YES),)), ("dict", ((("ref", 999), NO), (NONE, NONE)))])
        self.assertEqual(plain_built(heap, "dict.get", refs(1000, 999)), ("ok", YES))
        self.assertEqual(plain_built(heap, "dict.get", refs(1000, 998)), DONE)
        self.assertEqual(plain_built(heap, "dict.update", refs(1000, 1001)), DONE)
        self.assertEqual(heap[1000], ("dict", ((("ref", 999), NO), (NONE, NONE))))
        self.assertEqual(plain_built(heap, "dict.pop", refs(1000, 998)), TOO_LARGE)


if __name__ == "__main__":
    unittest.main()
