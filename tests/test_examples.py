"""The examples of the document, as they stand there."""

import unittest

from pyhold.arithmetic import binary, negated
from pyhold.binding import bind
from pyhold.coding import write_count, write_integer, write_object, write_string, write_tree, write_value
from pyhold.comparing import compare, equal, is_key
from pyhold.compiling import compile_text
from pyhold.data import put_data
from pyhold.decoding import read_count, read_value
from pyhold.errors import BadNumbers, BadState, Fault
from pyhold.items import drop_item, item, part, put_item
from pyhold.meaning import has_yield, run_plain
from pyhold.parsing import level, parse
from pyhold.printing import shown, without_lines
from pyhold.reach import object_references
from pyhold.runs import begin
from pyhold.scopes import bound, lower
from pyhold.showing import show, words
from pyhold.values import kind_name, length, truth
from pyhold.words import quoted, split
from tests.helpers import fault_of


class Examples(unittest.TestCase):
    def test_words(self):
        self.assertEqual(split("if x:\n  y = 'a'\n"), [
            ("word", "if", 1), ("name", "x", 1), ("sign", ":", 1), ("newline", "", 1),
            ("indent", "", 2), ("name", "y", 2), ("sign", "=", 2), ("text", "a", 2),
            ("newline", "", 2), ("dedent", "", 3), ("end", "", 3)])
        self.assertRaises(Fault, split, "a = 007")
        self.assertEqual(quoted('a"b'), '"a\\"b"')

    def test_parsing(self):
        self.assertEqual(
            parse("a = 1 - b"),
            (("set", 1, ("name", "a"), ("bin", "-", ("const", ("int", 1)), ("name", "b"))),))
        self.assertEqual(fault_of(parse, "1 = a"), (1, "not a target"))
        self.assertEqual(level(parse("a + b * 2")[0][2]), 3)

    def test_printing(self):
        self.assertEqual(
            shown(parse("if a:\n b=((c)+1)*2\nelse:\n  if d:\n   f(x,k=1)\n")),
            "if a:\n    b = (c + 1) * 2\nelif d:\n    f(x, k=1)\n")
        self.assertEqual(without_lines(parse("\n\na")), (("do", 0, ("name", "a")),))

    def test_scopes(self):
        self.assertEqual(
            lower(parse("def f(a):\n  global b\n  b = a\n  c = yield b\n"))[0][5],
            (("a", "c"), ("b",), True))
        self.assertEqual(bound(parse("for x in y:\n  a, x = b\n")), ("x", "a"))

    def test_compiling(self):
        self.assertEqual(fault_of(compile_text, "a = 1\nbreak"), (2, "break outside a loop"))

    def test_values(self):
        heap = [("list", (("int", 1),))]
        self.assertEqual(
            (kind_name(heap, ("ref", 0)), length(heap, ("ref", 0)), truth(heap, ("text", ""))),
            ("list", ("ok", ("int", 1)), False))

    def test_arithmetic(self):
        self.assertEqual(binary([], "//", ("int", -7), ("int", 2)), ("ok", ("int", -4)))
        self.assertEqual(
            binary([], "+", ("int", 1), ("text", "a")),
            ("raise", 10, "unsupported operands for +: int and str"))
        self.assertEqual(negated([], ("bool", True)), ("ok", ("int", -1)))

    def test_comparing(self):
        self.assertEqual(
            (equal([], ("bool", True), ("int", 1)), compare([], "<", ("text", "a"), ("text", "ab"))),
            (True, ("ok", ("bool", True))))
        self.assertEqual(
            is_key([("list", ())], ("ref", 0)), ("raise", 10, "not a key: list"))

    def test_items(self):
        heap = [("dict", ((("int", 1), ("text", "a")),))]
        self.assertEqual(
            (put_item(heap, ("ref", 0), ("bool", True), ("text", "b")), heap),
            (("ok", ("none",)), [("dict", ((("int", 1), ("text", "b")),))]))
        self.assertEqual(
            (item([], ("span", 3, 9), ("int", -1)), part([], ("text", "abc"), ("int", -2), ("none",))),
            (("ok", ("int", 8)), ("ok", ("text", "bc"))))
        heap = [("list", (("int", 1), ("int", 2)))]
        self.assertEqual(
            (drop_item(heap, ("ref", 0), ("int", 5)), heap),
            (("raise", 6, "index out of range"), [("list", (("int", 1), ("int", 2)))]))

    def test_showing(self):
        self.assertEqual(
            show([("list", (("ref", 0), ("text", "it's")))], ("ref", 0)),
            ("ok", ("text", '[[...], "it\'s"]')))
        self.assertEqual(words([], ("text", "a")), ("ok", ("text", "a")))

    def test_binding(self):
        self.assertEqual(
            bind("f", ("a", "b"), (("b", ("int", 2)),), (("int", 1),), ()),
            ("ok", (("a", ("int", 1)), ("b", ("int", 2)))))
        self.assertEqual(
            bind("f", ("a",), (), (), (("b", ("none",)),)),
            ("raise", 10, "f() has no parameter b"))

    def test_meaning(self):
        outcome, _, out, used = run_plain(compile_text("a = 1 + 2\nprint(a)\n"), (), (), 150, 1000)
        self.assertEqual((outcome, out, used), (("done",), "3\n", 0))
        outcome, _, _, _ = run_plain(compile_text("while True:\n    pass\n"), (), (), 150, 1000)
        self.assertEqual(outcome, ("long",))
        self.assertIs(has_yield(compile_text("def f():\n    yield 1\n")), True)

    def test_reach(self):
        self.assertEqual(
            object_references(("inst", 20, (("a", ("ref", 7)), ("b", ("int", 1)), ("c", ("ref", 7))))), [20, 7, 7])
        self.assertEqual(object_references(("class", "C", -1, ())), [])

    def test_coding(self):
        self.assertEqual(write_count(300), [172, 2])
        self.assertEqual(write_integer(-3), [5])
        self.assertEqual(write_string("hi"), [2, 72, 73])
        self.assertEqual(write_value(("span", -3, 0)), [5, 5, 0])
        self.assertEqual(
            write_tree(("const", ("bool", True))),
            [0, 2, 1, 5, 67, 79, 78, 83, 84, 0, 2, 1, 4, 66, 79, 79, 76, 4])
        self.assertEqual(write_object(("tuple", (("none",), ("ref", 17)))), [1, 2, 0, 8, 17])

    def test_decoding(self):
        self.assertEqual(read_count([9, 172, 2, 5], 1), (300, 3))
        self.assertRaises(BadNumbers, read_count, [172, 0], 0)
        self.assertEqual(read_value([4, 2, 72, 73], 0), (("text", "hi"), 4))

    def test_data(self):
        heap = []
        self.assertEqual(
            (put_data(heap, [1, ("a",)]), heap),
            (("ref", 1), [("tuple", (("text", "a"),)), ("list", (("int", 1), ("ref", 0)))]))

    def test_runs(self):
        text = "x = ask(2)\nprint(x + 1)\n"
        run = begin(text, ("ask",))
        self.assertEqual((run.go(1000)[0], run.request()), ("asking", ("ask", [2])))
        run = begin(text, ("ask",))
        run.go(1000)
        other = run.twin()
        run.answer(41)
        self.assertEqual(
            (run.go(1000)[0], run.take(), run.take(), other.state(), other.output),
            ("over", "42\n", "", "asking", ""))
        self.assertRaises(BadState, begin("x = 1\n").answer, 1)

    def test_points(self):
        a, b, c = ("name", "a"), ("name", "b"), ("name", "c")
        self.assertEqual(
            parse("a - b + c"), (("do", 1, ("bin", "+", ("bin", "-", a, b), c)),))
        self.assertEqual(
            parse("a, b = b, a"), (("set", 1, ("tuple", (a, b)), ("tuple", (b, a))),))


if __name__ == "__main__":
    unittest.main()
