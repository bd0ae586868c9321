import random
import unittest

from tests.built_calls import BuiltCalls
from tests.machines import machine_of

SMALL = ("", "a", "b", "ab", "aa", "aaa", "ba", "a b", " ", "\n", " a\nb ", "a  b", "\n\n a")


class Texts(BuiltCalls, unittest.TestCase):
    def test_as_python_does(self):
        for text in SMALL + ("A1z~", "Tab \\ 'x'"):
            self.gives("str.strip", (text,), text.strip())
            self.gives("str.upper", (text,), text.upper())
            self.gives("str.lower", (text,), text.lower())
            self.gives("str.isdigit", (text,), text.isdigit())
            self.gives("str.split", (text,), text.split(), objects=1)
            for other in SMALL:
                self.gives("str.find", (text, other), text.find(other))
                self.gives("str.startswith", (text, other), text.startswith(other))
                self.gives("str.endswith", (text, other), text.endswith(other))
                if other != "":
                    self.gives("str.split", (text, other), text.split(other), objects=1)
                    for new in ("", "a", "xyz", " "):
                        self.gives("str.replace", (text, other, new), text.replace(other, new))

    def test_find(self):
        self.gives("str.find", ("banana", "an"), 1)
        self.gives("str.find", ("banana", "x"), -1)
        self.gives("str.find", ("banana", ""), 0)
        self.gives("str.find", ("", "a"), -1)

    def test_replace(self):
        self.gives("str.replace", ("aaaa", "aa", "b"), "bb")
        self.gives("str.replace", ("aaa", "aa", "b"), "ba")
        self.gives("str.replace", ("a b\nc", "\n", " "), "a b c")
        self.gives("str.replace", ("ab", "c", "d"), "ab")

    def test_the_size_of_what_is_replaced(self):
        self.gives("str.replace", ("a" * 500, "a", "bc"), "bc" * 500)
        self.gives("str.replace", ("a" * 499 + "bb", "a", "bc"), "bc" * 499 + "bb")
        self.too_large("str.replace", ("a" * 501, "a", "bc"))
        self.too_large("str.replace", ("a" * 499 + "bbb", "a", "bc"))
        self.too_large("str.replace", ("a" * 1000, "a", "b" * 1000))
        self.gives("str.replace", ("a" * 1000, "b", "b" * 1000), "a" * 1000)

    def test_split(self):
        self.gives("str.split", (" a \n\n b\n",), ["a", "b"], objects=1)
        self.gives("str.split", ("",), [], objects=1)
        self.gives("str.split", (" \n ",), [], objects=1)
        self.gives("str.split", ("a,b,,c,", ","), ["a", "b", "", "c", ""], objects=1)
        self.gives("str.split", ("", ","), [""], objects=1)
        self.gives("str.split", ("aaa", "aa"), ["", "a"], objects=1)
        self.gives("str.split", (" a b ", " "), ["", "a", "b", ""], objects=1)
        self.gives("str.split", ("a\nb c", "\n"), ["a", "b c"], objects=1)

    def test_the_number_of_parts(self):
        self.gives("str.split", ("," * 999, ","), [""] * 1000, objects=1)
        self.too_large("str.split", ("," * 1000, ","))
        self.gives("str.split", ("," * 1000, ",,"), [""] * 501, objects=1)
        self.gives("str.split", ("a " * 500,), ["a"] * 500, objects=1)

    def test_an_empty_text(self):
        for text in ("", "a", "a b"):
            self.refuses("str.split", (text, ""), 11, "empty text")
            self.refuses("str.replace", (text, "", ""), 11, "empty text")
            self.refuses("str.replace", (text, "", "b" * 1000), 11, "empty text")

    def test_join(self):
        for row in ([], ["a"], ["a", "b"], ["", ""], [" ", "\n", "c"], (), ("a", "b")):
            for text in ("", ",", " - ", "\n"):
                self.gives("str.join", (text, row), text.join(row))

    def test_the_size_of_what_is_joined(self):
        self.gives("str.join", ("", ["a" * 600, "b" * 400]), "a" * 600 + "b" * 400)
        self.too_large("str.join", ("", ["a" * 600, "b" * 401]))
        self.gives("str.join", (",", ["a" * 600, "b" * 399]), "a" * 600 + "," + "b" * 399)
        self.too_large("str.join", (",", ["a" * 600, "b" * 400]))
        self.too_large("str.join", ("a" * 1000, ["", "", ""]))
        self.gives("str.join", ("a" * 1000, ["", ""]), "a" * 1000)
        self.gives("str.join", ("a" * 1000, ["b"]), "b")

    def test_join_of_what_is_no_text(self):
        for row, kind in ((["a", 1, None], "int"), ((None,), "NoneType"), ([["a"], 1], "list"),
                          (["a", True], "bool"), (["a" * 1000, "b", range(2)], "range")):
            self.refuses("str.join", (",", row), 10, "str.join() cannot take " + kind)

    def test_isdigit(self):
        for text, expected in (("", False), ("0", True), ("0123456789", True), ("-1", False), ("1 ", False),
                               ("1a", False), ("\n", False), ("1" * 1000, True)):
            self.gives("str.isdigit", (text,), expected)

    def test_strip(self):
        for text, expected in (("", ""), (" \n a \n b\n ", "a \n b"), ("\n", ""), ("a", "a"), ("\"' ", "\"'")):
            self.gives("str.strip", (text,), expected)

    def test_long_texts(self):
        for name in ("strip", "upper", "lower"):
            self.gives("str." + name, ("aZ" * 500,), getattr("aZ" * 500, name)())
        self.gives("str.find", ("a" * 999 + "b", "b"), 999)

    def test_at_random(self):
        source = random.Random(5)
        for _ in range(200):
            text = "".join(source.choice("ab \n") for _ in range(source.randrange(12)))
            other = "".join(source.choice("ab \n") for _ in range(source.randrange(1, 3)))
            self.gives("str.split", (text,), text.split(), objects=1)
            self.gives("str.split", (text, other), text.split(other), objects=1)
            self.gives("str.replace", (text, other, "xy"), text.replace(other, "xy"))
            self.gives("str.find", (text, other), text.find(other))

    def test_kinds(self):
        for name, args, kind in (
                ("find", (1,), "int"), ("find", (None,), "NoneType"), ("split", (["a"],), "list"),
                ("split", (None,), "NoneType"), ("replace", ("a", 1), "int"), ("replace", (True, 1), "bool"),
                ("replace", ("", 1), "int"), ("startswith", (("a",),), "tuple"), ("endswith", (0,), "int"),
                ("join", ("ab",), "str"), ("join", ({},), "dict"), ("join", (range(3),), "range")):
            self.refuses("str." + name, ("a",) + args, 10, f"str.{name}() cannot take {kind}")

    def test_join_does_not_ask_instances(self):
        machine = machine_of()
        machine.heap.append(("class", "Box", -1, ()))
        machine.heap.append(("inst", 17, ()))
        machine.heap.append(("list", (("text", "a"), ("ref", 18))))
        self.refuses_values(
            machine, "str.join", (("text", ","), ("ref", 19)), 10, "str.join() cannot take Box")
        machine.heap.append(("iter", ("ref", 19), 0, -1))
        self.refuses_values(
            machine, "str.join", (("text", ","), ("ref", len(machine.heap) - 1)), 10,
            "str.join() cannot take iterator")


if __name__ == "__main__":
    unittest.main()
