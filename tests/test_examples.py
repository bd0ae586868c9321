"""The examples of the document, as they stand there."""

import unittest

from pyhold.arithmetic import binary, negated
from pyhold.binding import bind
from pyhold.comparing import compare, equal, is_key
from pyhold.compiling import compile_text
from pyhold.errors import Fault
from pyhold.items import drop_item, item, part, put_item
from pyhold.parsing import level, parse
from pyhold.printing import shown, without_lines
from pyhold.scopes import bound, lower
from pyhold.showing import show, words
from pyhold.values import kind_name, length, truth
from pyhold.words import quoted, split
from tests.helpers import fault_of


class Examples(unittest.TestCase):
    def test_words(self):
        self.assertEqual(split("if x:\n  y = 'a'\n"), [
            ("word", "if", 1), ("name", "x", 1), ("sign", ":", 1), ("newline", "", 1),
            ("indent", "", 2), ("name", "y", 2), ("sign", "=", 2), ("text", "a", 2),
            ("newline", "", 2), ("dedent", "", 3), ("end", "", 3)])
        self.assertRaises(Fault, split, "a = 007")
        self.assertEqual(quoted('a"b'), '"a\\"b"')

    def test_parsing(self):
        self.assertEqual(
            parse("a = 1 - b"),
            (("set", 1, ("name", "a"), ("bin", "-", ("const", ("int", 1)), ("name", "b"))),))
        self.assertEqual(fault_of(parse, "1 = a"), (1, "not a target"))
        self.assertEqual(level(parse("a + b * 2")[0][2]), 3)

    def test_printing(self):
        self.assertEqual(
            shown(parse("if a:\n b=((c)+1)*2\nelse:\n  if d:\n   f(x,k=1)\n")),
            "if a:\n    b = (c + 1) * 2\nelif d:\n    f(x, k=1)\n")
        self.assertEqual(without_lines(parse("\n\na")), (("do", 0, ("name", "a")),))

    def test_scopes(self):
        self.assertEqual(
            lower(parse("def f(a):\n  global b\n  b = a\n  c = yield b\n"))[0][5],
            (("a", "c"), ("b",), True))
        self.assertEqual(bound(parse("for x in y:\n  a, x = b\n")), ("x", "a"))

    def test_compiling(self):
        self.assertEqual(fault_of(compile_text, "a = 1\nbreak"), (2, "break outside a loop"))

    def test_values(self):
        heap = [("list", (("int", 1),))]
        self.assertEqual(
            (kind_name(heap, ("ref", 0)), length(heap, ("ref", 0)), truth(heap, ("text", ""))),
            ("list", ("ok", ("int", 1)), False))

    def test_arithmetic(self):
        self.assertEqual(binary([], "//", ("int", -7), ("int", 2)), ("ok", ("int", -4)))
        self.assertEqual(
            binary([], "+", ("int", 1), ("text", "a")),
            ("raise", 10, "unsupported operands for +: int and str"))
        self.assertEqual(negated([], ("bool", True)), ("ok", ("int", -1)))

    def test_comparing(self):
        self.assertEqual(
            (equal([], ("bool", True), ("int", 1)), compare([], "<", ("text", "a"), ("text", "ab"))),
            (True, ("ok", ("bool", True))))
        self.assertEqual(
            is_key([("list", ())], ("ref", 0)), ("raise", 10, "not a key: list"))

    def test_items(self):
        heap = [("dict", ((("int", 1), ("text", "a")),))]
        self.assertEqual(
            (put_item(heap, ("ref", 0), ("bool", True), ("text", "b")), heap),
            (("ok", ("none",)), [("dict", ((("int", 1), ("text", "b")),))]))
        self.assertEqual(
            (item([], ("span", 3, 9), ("int", -1)), part([], ("text", "abc"), ("int", -2), ("none",))),
            (("ok", ("int", 8)), ("ok", ("text", "bc"))))
        heap = [("list", (("int", 1), ("int", 2)))]
        self.assertEqual(
            (drop_item(heap, ("ref", 0), ("int", 5)), heap),
            (("raise", 6, "index out of range"), [("list", (("int", 1), ("int", 2)))]))

    def test_showing(self):
        self.assertEqual(
            show([("list", (("ref", 0), ("text", "it's")))], ("ref", 0)),
            ("ok", ("text", '[[...], "it\'s"]')))
        self.assertEqual(words([], ("text", "a")), ("ok", ("text", "a")))

    def test_binding(self):
        self.assertEqual(
            bind("f", ("a", "b"), (("b", ("int", 2)),), (("int", 1),), ()),
            ("ok", (("a", ("int", 1)), ("b", ("int", 2)))))
        self.assertEqual(
            bind("f", ("a",), (), (), (("b", ("none",)),)),
            ("raise", 10, "f() has no parameter b"))

    def test_points(self):
        a, b, c = ("name", "a"), ("name", "b"), ("name", "c")
        self.assertEqual(
            parse("a - b + c"), (("do", 1, ("bin", "+", ("bin", "-", a, b), c)),))
        self.assertEqual(
            parse("a, b = b, a"), (("set", 1, ("tuple", (a, b)), ("tuple", (b, a))),))


if __name__ == "__main__":
    unittest.main()
