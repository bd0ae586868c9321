import unittest

from pyhold.core import CHARACTERS
from pyhold.showing import show, words
from tests.heaps import EDGE, NO, NONE, SCOPE, TOO_LARGE, YES, heap_of_all, ints, nested, refs, texts

R0 = ("ref", 0)


class Values(unittest.TestCase):
    def check(self, value, expected):
        self.assertEqual(show([], value), ("ok", ("text", expected)))

    def test_constants(self):
        self.check(NONE, "None")
        self.check(YES, "True")
        self.check(NO, "False")

    def test_integers(self):
        for n in (0, 1, -1, 42, -100, EDGE - 1, 1 - EDGE):
            self.check(("int", n), str(n))

    def test_spans(self):
        self.check(("span", 0, 3), "range(0, 3)")
        self.check(("span", -3, -3), "range(-3, -3)")

    def test_functions(self):
        self.check(("built", "len"), "<builtin len>")
        self.check(("built", "list.append"), "<builtin list.append>")
        self.check(("host", "ask"), "<host ask>")

    def test_texts(self):
        for text, expected in (
                ("", "''"), ("a b", "'a b'"), ("it's", '"it\'s"'), ('say "a"', "'say \"a\"'"),
                ("'\"", "'\\'\"'"), ("\"'\"'", "'\"\\'\"\\''"), ("\\", "'\\\\'"), ("\n", "'\\n'"),
                ("\\n", "'\\\\n'"), ("\\'", '"\\\\\'"'), ("\\\"", "'\\\\\"'"), ("\\'\"\n", "'\\\\\\'\"\\n'")):
            self.check(("text", text), expected)

    def test_texts_as_python_shows_them(self):
        for one in CHARACTERS:
            for other in "\n'\"\\a ":
                for text in (one, one + other, other + one + other, "\"" + one + "'" + other):
                    self.check(("text", text), repr(text))


class Objects(unittest.TestCase):
    def check(self, heap, expected, k=0):
        before = list(heap)
        self.assertEqual(show(heap, ("ref", k)), ("ok", ("text", expected)))
        self.assertEqual(words(heap, ("ref", k)), ("ok", ("text", expected)))
        self.assertEqual(heap, before)

    def test_rows(self):
        self.check([("tuple", ())], "()")
        self.check([("tuple", ints(1))], "(1,)")
        self.check([("tuple", ints(1, 2))], "(1, 2)")
        self.check([("tuple", ints(1, 2, 3))], "(1, 2, 3)")
        self.check([("list", ())], "[]")
        self.check([("list", ints(1))], "[1]")
        self.check([("list", ints(1, 2))], "[1, 2]")
        self.check([("list", texts("a", "it's"))], "['a', \"it's\"]")
        self.check([("list", (NONE, YES, ("span", 1, 2)))], "[None, True, range(1, 2)]")

    def test_dicts(self):
        self.check([("dict", ())], "{}")
        self.check([("dict", ((("text", "a"), ("int", 1)), (("int", 2), NONE)))], "{'a': 1, 2: None}")
        self.check([("dict", ((("ref", 1), ("ref", 2)),)), ("tuple", ints(1)), ("list", ())], "{(1,): []}")

    def test_parts_of_parts(self):
        heap = [("list", refs(1, 2, 3)), ("tuple", refs(2)), ("list", ()), ("dict", ((NONE, ("ref", 1)),))]
        self.check(heap, "[([],), [], {None: ([],)}]")

    def test_an_object_twice_is_not_inside_itself(self):
        self.check([("list", refs(1, 1)), ("list", ints(5))], "[[5], [5]]")
        self.check([("dict", ((NONE, ("ref", 1)), (YES, ("ref", 1)))), ("tuple", ())], "{None: (), True: ()}")
        heap = [("list", refs(1, 2, 1)), ("list", refs(2, 2)), ("tuple", ())]
        self.check(heap, "[[(), ()], (), [(), ()]]")

    def test_inside_themselves(self):
        self.check([("list", (R0,))], "[[...]]")
        self.check([("tuple", (R0,))], "((...),)")
        self.check([("tuple", (R0, R0))], "((...), (...))")
        self.check([("dict", ((NONE, R0),))], "{None: {...}}")
        heap = [("list", refs(1)), ("tuple", refs(2, 0)), ("dict", ((NONE, R0), (YES, ("ref", 1)), (NO, ("ref", 2))))]
        self.check(heap, "[({None: [...], True: (...), False: {...}}, [...])]")
        self.check(heap, "({None: [(...)], True: (...), False: {...}}, [(...)])", 1)
        self.check([("list", refs(1, 1, 0)), ("list", refs(0, 1))], "[[[...], [...]], [[...], [...]], [...]]")

    def test_example(self):
        heap = [("list", (("ref", 0), ("text", "it's")))]
        self.assertEqual(show(heap, R0), ("ok", ("text", '[[...], "it\'s"]')))

    def test_all_other_kinds(self):
        heap = [found for found, _ in heap_of_all()]
        heap.append(("bound", ("ref", 0), ("built", "list.append")))
        for k, expected in (
                (4, "<function f>"), (5, "<class Box>"), (6, "<Box object>"), (7, "<method f>"),
                (8, "<iterator>"), (9, "<generator f>"), (10, "<method list.append>")):
            self.check(heap, expected, k)
        heap.append(("list", refs(4, 5, 6, 7, 8, 9, 10) + (("built", "abs"), ("host", "a"))))
        self.check(heap, "[<function f>, <class Box>, <Box object>, <method f>, <iterator>, <generator f>, "
                         "<method list.append>, <builtin abs>, <host a>]", 11)

    def test_members_are_not_shown(self):
        heap = [("class", "C", -1, (("a", R0),)), ("inst", 0, (("a", ("ref", 1)),)), ("list", refs(1, 1))]
        self.check(heap, "[<C object>, <C object>]", 2)

    def test_a_method_of_another_kind_of_function(self):
        heap = [found for found, _ in heap_of_all()]
        for function, expected in (
                (("host", "ask"), "ask"), (("ref", 5), "Box"), (("ref", 6), "Box"), (("ref", 10), "method")):
            self.check(heap + [("bound", NONE, function)], "<method " + expected + ">", 10)

    def test_scopes(self):
        self.check([SCOPE], "<scope>")


class Words(unittest.TestCase):
    def test_texts_are_themselves(self):
        for text in ("", "a", "it's\n", "\\", "a" * 1000, "\n" * 1000):
            self.assertEqual(words([], ("text", text)), ("ok", ("text", text)))

    def test_all_else_is_shown(self):
        for value in (NONE, YES, ("int", -3), ("span", 1, 2), ("built", "len"), ("host", "a")):
            self.assertEqual(words([], value), show([], value))
        heap = [("list", texts("a"))]
        self.assertEqual(words(heap, R0), ("ok", ("text", "['a']")))

    def test_too_large(self):
        self.assertEqual(words([("tuple", (NONE,) * 200)], R0), TOO_LARGE)


class Bound(unittest.TestCase):
    def check(self, heap, value, expected):
        outcome = show(heap, value)
        if expected > 1000:
            self.assertEqual(outcome, TOO_LARGE)
        else:
            self.assertEqual((outcome[0], len(outcome[1][1])), ("ok", expected))

    def test_texts(self):
        for size in (997, 998, 999, 1000):
            self.check([], ("text", "a" * size), size + 2)
            self.check([("list", texts("a" * (size - 2)))], R0, size + 2)
            self.check([("tuple", texts("a" * (size - 3)))], R0, size + 2)
            self.check([("dict", ((("text", "a" * 100), ("text", "b" * (size - 106))),))], R0, size + 2)
        for size in (498, 499, 500, 1000):
            for letter in "\n\\":
                self.check([], ("text", letter * size), 2 * size + 2)
        self.check([], ("text", "\"'" * 332 + "b"), 999)
        self.check([], ("text", "\"'" * 332 + "bc"), 1000)
        self.check([], ("text", "\"'" * 332 + "bcd"), 1001)

    def test_rows(self):
        for kind in ("list", "tuple"):
            self.check([(kind, ints(*[1] * 333))], R0, 999)
            self.check([(kind, ints(*[1] * 332, 10, 10)[:333])], R0, 1000)
            self.check([(kind, ints(*[1] * 331, 10, 10))], R0, 1001)
            self.check([(kind, ints(*[1] * 334))], R0, 1002)
            self.check([(kind, ints(*[1] * 1000))], R0, 3000)
        self.check([("tuple", (("text", "a" * 995),))], R0, 1000)
        self.check([("tuple", (("text", "a" * 996),))], R0, 1001)

    def test_nested_rows(self):
        for kind, each in (("list", 2), ("tuple", 3)):
            for depth in (331, 332, 333, 334, 499, 500, 501, 1000):
                heap = nested(kind, depth)
                self.check(heap, ("ref", depth - 1), each * depth - each + 2)

    def test_nested_dicts(self):
        for depth in (1, 2, 200, 201, 1000):
            self.check(nested("dict", depth), ("ref", depth - 1), 5 * depth - 3)

    def test_shared_parts(self):
        heap = [("list", ())]
        for k in range(1000):
            heap.append(("list", (("ref", k),) * 1000))
        for k in (1, 500, 1000):
            self.assertEqual(show(heap, ("ref", k)), TOO_LARGE)
        heap = [("tuple", ())]
        for k in range(1000):
            heap.append(("tuple", refs(k, k)))
        self.assertEqual(show(heap, ("ref", 2)), ("ok", ("text", "(((), ()), ((), ()))")))
        self.check(heap, ("ref", 7), len(plain(7)))
        self.check(heap, ("ref", 8), len(plain(8)))
        self.assertEqual(show(heap, ("ref", 1000)), TOO_LARGE)

    def test_in_themselves(self):
        self.check([("list", (R0,) * 142)], R0, 7 * 142)
        self.check([("list", (R0,) * 143)], R0, 7 * 143)


def plain(depth):
    made = ()
    for _ in range(depth):
        made = (made, made)
    return repr(made)


if __name__ == "__main__":
    unittest.main()
