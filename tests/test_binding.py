import itertools
import unittest

from pyhold.binding import bind
from tests.heaps import NONE, ints


def refused(words):
    return ("raise", 10, words)


class Bind(unittest.TestCase):
    def test_examples(self):
        self.assertEqual(
            bind("f", ("a", "b"), (("b", ("int", 2)),), (("int", 1),), ()),
            ("ok", (("a", ("int", 1)), ("b", ("int", 2)))))
        self.assertEqual(
            bind("f", ("a",), (), (), (("b", NONE),)), refused("f() has no parameter b"))

    def test_nothing(self):
        self.assertEqual(bind("f", (), (), (), ()), ("ok", ()))

    def test_by_place(self):
        one, two = ints(1, 2)
        self.assertEqual(bind("f", ("b", "a"), (), (one, two), ()), ("ok", (("b", one), ("a", two))))

    def test_by_name_in_the_order_of_the_parameters(self):
        one, two, three = ints(1, 2, 3)
        self.assertEqual(
            bind("f", ("a", "b", "c"), (), (one,), (("c", three), ("b", two))),
            ("ok", (("a", one), ("b", two), ("c", three))))

    def test_defaults(self):
        one, two, three = ints(1, 2, 3)
        defaults = (("b", one), ("c", two))
        for args, named, expected in (
                ((three,), (), (three, one, two)), ((three, NONE), (), (three, NONE, two)),
                ((three,), (("c", NONE),), (three, one, NONE)), ((), (("a", NONE),), (NONE, one, two)),
                ((three, three, three), (), (three, three, three)),
                ((), (("c", NONE), ("a", three)), (three, one, NONE))):
            self.assertEqual(
                bind("f", ("a", "b", "c"), defaults, args, named), ("ok", tuple(zip("abc", expected))))

    def test_too_many(self):
        words = "f() takes too many arguments"
        self.assertEqual(bind("f", (), (), ints(1), ()), refused(words))
        self.assertEqual(bind("f", ("a",), (("a", NONE),), ints(1, 2), ()), refused(words))
        self.assertEqual(bind("f", ("a", "b"), (), ints(1, 2, 3), (("x", NONE), ("a", NONE))), refused(words))

    def test_no_parameter(self):
        self.assertEqual(
            bind("go", ("a", "b"), (), ints(1), (("a", NONE), ("y", NONE), ("x", NONE))),
            refused("go() has no parameter y"))
        self.assertEqual(bind("go", (), (), (), (("y", NONE),)), refused("go() has no parameter y"))

    def test_twice(self):
        self.assertEqual(
            bind("f", ("a", "b", "c"), (), ints(1, 2), (("b", NONE), ("a", NONE))),
            refused("f() was given b twice"))
        self.assertEqual(
            bind("f", ("a", "b"), (("a", NONE), ("b", NONE)), ints(1), (("a", NONE),)),
            refused("f() was given a twice"))

    def test_needs(self):
        self.assertEqual(bind("f", ("a", "b"), (), (), ()), refused("f() needs a"))
        self.assertEqual(bind("f", ("a", "b"), (), ints(1), ()), refused("f() needs b"))
        self.assertEqual(bind("f", ("a", "b"), (), (), (("a", NONE),)), refused("f() needs b"))
        self.assertEqual(bind("f", ("a", "b"), (("b", NONE),), (), ()), refused("f() needs a"))
        self.assertEqual(bind("f", ("a", "b", "c"), (("c", NONE),), (), (("c", NONE),)), refused("f() needs a"))

    def test_the_order_of_refusals(self):
        named = (("a", NONE), ("x", NONE))
        params = ("a", "b", "c")
        self.assertEqual(bind("f", params, (), ints(1, 2, 3, 4), named), refused("f() takes too many arguments"))
        self.assertEqual(bind("f", params, (), ints(1), named), refused("f() has no parameter x"))
        self.assertEqual(bind("f", params, (), ints(1), named[:1]), refused("f() was given a twice"))
        self.assertEqual(bind("f", params, (), ints(1), ()), refused("f() needs b"))

    def test_many_as_they_are_told(self):
        params = ("a", "b", "c")
        defaults = (("c", ("text", "c")),)
        for many in range(5):
            for count in range(3):
                for names in itertools.permutations(("a", "b", "c", "x"), count):
                    args = ints(*range(many))
                    named = tuple((name, ("text", "by name " + name)) for name in names)
                    self.assertEqual(
                        bind("f", params, defaults, args, named), told(params, defaults, args, named))


def told(params, defaults, args, named):
    if len(args) > len(params):
        return refused("f() takes too many arguments")
    for name, _ in named:
        if name not in params:
            return refused("f() has no parameter " + name)
    for name, _ in named:
        if params.index(name) < len(args):
            return refused("f() was given " + name + " twice")
    pairs = []
    for at, name in enumerate(params):
        found = list(args[at:at + 1]) + [v for x, v in named if x == name]
        found += [v for x, v in defaults if x == name]
        if not found:
            return refused("f() needs " + name)
        pairs.append((name, found[0]))
    return ("ok", tuple(pairs))


if __name__ == "__main__":
    unittest.main()
