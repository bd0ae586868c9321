"""Expressions by steps: each row of the table of m3."""

import unittest

from tests.heaps import NO, NONE, YES, ints
from tests.helpers import name
from tests.steps import ENV, Steps

A, B, C, D = name("a"), name("b"), name("c"), name("d")
ONE, TWO, THREE = ints(1, 2, 3)
EMPTY = ("text", "")
LIST = ("list", ints(4, 5, 6))
FALSE_VALUES = (NONE, NO, ("int", 0), EMPTY, ("span", 3, 3), ("ref", ENV + 2))
TRUE_VALUES = (YES, ONE, ("text", "a"), ("span", 1, 2), ("ref", ENV + 1), ("built", "len"), ("ref", ENV + 4))
# A list, an empty tuple, a class without and one with all methods, and an instance of each.
THINGS = (LIST, ("tuple", ()), ("class", "Box", -1, ()), ("inst", ENV + 3, ()))


def evaluation(tree):
    return ("eval", tree, ENV)


def own(*names):
    """Objects: a function, a class with it by these names, and an instance, the number ENV + 3."""
    function = ("func", "f", (), (), (), ((), (), False), 0)
    members = tuple((x, ("ref", ENV + 1)) for x in names)
    return (function, ("class", "Box", -1, members), ("inst", ENV + 2, ()))


FUNCTION, BOX = ("ref", ENV + 1), ("ref", ENV + 3)


class Beginnings(Steps, unittest.TestCase):
    def begins(self, tree, first, frame):
        self.goes(evaluation(tree), (), evaluation(first), (frame,))

    def test_const(self):
        for value in (NONE, YES, NO, ("int", 7), ("text", "it")):
            self.goes(evaluation(("const", value)), (), ("value", value))

    def test_name(self):
        self.goes(evaluation(A), (), ("value", ("int", 5)))
        self.goes(evaluation(name("len")), (), ("value", ("built", "len")))
        self.goes(("eval", name("ask"), 0), (), ("value", ("host", "ask")))
        self.raises(evaluation(C), (), 8, "not bound: c")
        self.raises(evaluation(name("g")), (), 8, "not bound: g")
        self.raises(("eval", A, 0), (), 8, "not bound: a")

    def test_displays_without_parts(self):
        for kind in ("tuple", "list", "dict"):
            self.goes(evaluation((kind, ())), (), ("value", ("ref", ENV + 1)), made=((kind, ()),))

    def test_all_others(self):
        pairs = (("<", B), ("in", C))
        self.begins(("neg", A), A, ("neg",))
        self.begins(("not", A), A, ("not",))
        self.begins(("bin", "mod", A, B), A, ("bin1", "mod", B, ENV))
        self.begins(("and", A, B), A, ("and", B, ENV))
        self.begins(("or", A, B), A, ("or", B, ENV))
        self.begins(("choice", A, B, C), A, ("choice", B, C, ENV))
        self.begins(("compare", A, pairs), A, ("cmp1", pairs, ENV))
        self.begins(("attr", A, "x"), A, ("attr", "x"))
        self.begins(("item", A, B), A, ("item1", B, ENV))
        self.begins(("part", A, B, C), A, ("part1", B, C, ENV))
        self.begins(("tuple", (A,)), A, ("items", "tuple", (), (), ENV))
        self.begins(("list", (A, B, C)), A, ("items", "list", (), (B, C), ENV))
        self.begins(("dict", ((A, B),)), A, ("dict1", (), B, (), ENV))
        self.begins(("dict", ((A, B), (C, D))), A, ("dict1", (), B, ((C, D),), ENV))
        self.begins(("call", A, (), ()), A, ("call1", (), (), ENV))
        self.begins(("call", A, (B,), (("k", C),)), A, ("call1", (B,), (("k", C),), ENV))


class Operations(Steps, unittest.TestCase):
    def value(self, frame, v, result, **others):
        self.goes(("value", v), (frame,), ("value", result), **others)

    def refuses(self, frame, v, n, words, **others):
        self.raises(("value", v), (frame,), n, words, **others)

    def asks(self, frame, v, x, args, wanted=(), put=()):
        """The step asks the method x, with these arguments."""
        want = tuple(("want", what) for what in wanted)
        self.goes(("value", v), (frame,), ("call", FUNCTION, args, ()), want + put, own(x))

    def test_neg(self):
        self.value(("neg",), TWO, ("int", -2))
        self.value(("neg",), YES, ("int", -1))
        self.refuses(("neg",), EMPTY, 10, "unsupported operand for -: str")
        self.asks(("neg",), BOX, "op_neg", (BOX,))
        self.refuses(("neg",), BOX, 10, "unsupported operand for -: Box", objects=own("op_sub"))

    def test_not(self):
        for v in FALSE_VALUES:
            self.value(("not",), v, YES, objects=THINGS)
        for v in TRUE_VALUES:
            self.value(("not",), v, NO, objects=THINGS)
        self.value(("not",), BOX, NO, objects=own("op_len", "op_bool"))

    def test_bin(self):
        self.goes(("value", ONE), (("bin1", "+", B, ENV),), evaluation(B), (("bin2", "+", ONE),))
        self.value(("bin2", "-", ONE), THREE, ("int", -2))
        self.value(("bin2", "mod", ("int", -7)), THREE, TWO)
        self.value(
            ("bin2", "+", ("ref", ENV + 1)), ("ref", ENV + 1), ("ref", ENV + 2), objects=(LIST,),
            made=(("list", ints(4, 5, 6, 4, 5, 6)),))
        self.refuses(("bin2", "*", NONE), ONE, 10, "unsupported operands for *: NoneType and int")
        for op, x in (("+", "op_add"), ("-", "op_sub"), ("*", "op_mul"), ("//", "op_div"), ("mod", "op_mod")):
            self.asks(("bin2", op, BOX), ONE, x, (BOX, ONE))
            self.refuses(
                ("bin2", op, ONE), BOX, 10, f"unsupported operands for {op}: int and Box", objects=own(x))

    def test_and_or(self):
        for v in FALSE_VALUES:
            self.value(("and", B, ENV), v, v, objects=THINGS)
            self.goes(("value", v), (("or", B, ENV),), evaluation(B), objects=THINGS)
        for v in TRUE_VALUES:
            self.value(("or", B, ENV), v, v, objects=THINGS)
            self.goes(("value", v), (("and", B, ENV),), evaluation(B), objects=THINGS)

    def test_choice(self):
        for v in FALSE_VALUES:
            self.goes(("value", v), (("choice", A, B, ENV),), evaluation(B), objects=THINGS)
        for v in TRUE_VALUES:
            self.goes(("value", v), (("choice", A, B, ENV),), evaluation(A), objects=THINGS)

    def test_attr(self):
        bound = (("bound", ("text", "a"), ("built", "str.find")),)
        self.value(("attr", "find"), ("text", "a"), ("ref", ENV + 1), made=bound)
        self.refuses(("attr", "x"), ONE, 9, "int has no attribute x")
        self.value(
            ("attr", "m"), BOX, ("ref", ENV + 4), objects=own("m"), made=(("bound", BOX, FUNCTION),))

    def test_item(self):
        self.goes(("value", ONE), (("item1", B, ENV),), evaluation(B), (("item2", ONE),))
        self.value(("item2", ("ref", ENV + 1)), TWO, ("int", 6), objects=(LIST,))
        self.refuses(("item2", ("ref", ENV + 1)), THREE, 6, "index out of range", objects=(LIST,))
        self.refuses(("item2", ONE), TWO, 10, "no items: int")
        self.asks(("item2", BOX), ONE, "op_item", (BOX, ONE))
        self.refuses(("item2", BOX), ONE, 10, "no items: Box", objects=own("op_put"))

    def test_part(self):
        self.goes(("value", ONE), (("part1", B, C, ENV),), evaluation(B), (("part2", ONE, C, ENV),))
        self.goes(("value", TWO), (("part2", ONE, C, ENV),), evaluation(C), (("part3", ONE, TWO),))
        self.value(("part3", ("text", "abcd"), ONE), THREE, ("text", "bc"))
        self.value(
            ("part3", ("ref", ENV + 1), NONE), TWO, ("ref", ENV + 2), objects=(LIST,),
            made=(("list", ints(4, 5)),))
        self.refuses(("part3", ONE, EMPTY), NONE, 10, "no slices: int")
        self.refuses(("part3", EMPTY, YES), EMPTY, 10, "slice bound is no integer: str")
        self.refuses(("part3", BOX, ONE), TWO, 10, "no slices: Box", objects=own("op_item"))


class Comparisons(Steps, unittest.TestCase):
    def test_the_first_pair(self):
        self.goes(
            ("value", ONE), (("cmp1", (("<", B),), ENV),), evaluation(B), (("cmp2", ONE, "<", (), ENV),))
        pairs = (("<", B), ("in", C), ("is", D))
        self.goes(
            ("value", ONE), (("cmp1", pairs, ENV),), evaluation(B),
            (("cmp2", ONE, "<", pairs[1:], ENV),))

    def test_the_last_pair(self):
        self.goes(("value", TWO), (("cmp2", ONE, "<", (), ENV),), ("value", YES))
        self.goes(("value", TWO), (("cmp2", ONE, "isnot", (), ENV),), ("value", YES))
        self.raises(
            ("value", EMPTY), (("cmp2", ONE, "<", (), ENV),), 10, "unsupported operands for <: int and str")

    def test_a_pair_with_others_behind(self):
        rest = (("in", C), ("is", D))
        put = (("cmp3", TWO, rest, ENV),)
        self.goes(("value", TWO), (("cmp2", ONE, "<", rest, ENV),), ("value", YES), put)
        self.goes(("value", TWO), (("cmp2", ONE, ">", rest, ENV),), ("value", NO), put)
        self.raises(
            ("value", TWO), (("cmp2", ONE, "in", rest, ENV),), 10, "unsupported operands for in: int and int",
            put)

    def test_methods(self):
        rest = (("in", C),)
        for op, x, what in (("==", "op_eq", "bool"), ("!=", "op_eq", "notbool"), ("<", "op_lt", "bool"),
                            ("<=", "op_le", "bool"), (">", "op_gt", "bool"), (">=", "op_ge", "bool")):
            call = ("call", FUNCTION, (BOX, ONE), ())
            self.goes(
                ("value", ONE), (("cmp2", BOX, op, (), ENV),), call, (("want", what),), own(x))
            self.goes(
                ("value", ONE), (("cmp2", BOX, op, rest, ENV),), call,
                (("want", what), ("cmp3", ONE, rest, ENV)), own(x))
        for op, what in (("in", "bool"), ("notin", "notbool")):
            self.goes(
                ("value", BOX), (("cmp2", ONE, op, (), ENV),), ("call", FUNCTION, (BOX, ONE), ()),
                (("want", what),), own("op_in"))
        for op in ("is", "isnot"):
            objects = own("op_eq", "op_is", "op_isnot")
            self.goes(("value", BOX), (("cmp2", BOX, op, (), ENV),), ("value", ("bool", op == "is")), (), objects)

    def test_going_on(self):
        rest = (("in", C), ("is", D))
        for v in FALSE_VALUES:
            self.goes(("value", v), (("cmp3", ONE, rest, ENV),), ("value", v), objects=THINGS)
        for v in TRUE_VALUES:
            self.goes(
                ("value", v), (("cmp3", ONE, rest, ENV),), evaluation(C),
                (("cmp2", ONE, "in", (("is", D),), ENV),), THINGS)
        self.goes(
            ("value", YES), (("cmp3", ONE, rest[1:], ENV),), evaluation(D), (("cmp2", ONE, "is", (), ENV),))


class Displays(Steps, unittest.TestCase):
    def test_items(self):
        for kind in ("tuple", "list"):
            self.goes(
                ("value", TWO), (("items", kind, (ONE,), (B, C), ENV),), evaluation(B),
                (("items", kind, (ONE, TWO), (C,), ENV),))
            self.goes(
                ("value", TWO), (("items", kind, (ONE,), (), ENV),), ("value", ("ref", ENV + 1)),
                made=((kind, (ONE, TWO)),))

    def test_the_key_of_a_dict(self):
        self.goes(
            ("value", ONE), (("dict1", (), B, ((C, D),), ENV),), evaluation(B),
            (("dict2", (), ONE, ((C, D),), ENV),))

    def test_the_value_of_a_dict(self):
        done = ((ONE, TWO), (EMPTY, TWO))
        rest = ((A, B), (C, D))
        self.goes(
            ("value", THREE), (("dict2", done, NONE, rest, ENV),), evaluation(A),
            (("dict1", done + ((NONE, THREE),), B, ((C, D),), ENV),))
        # An equal key keeps its place.
        self.goes(
            ("value", THREE), (("dict2", done, YES, rest, ENV),), evaluation(A),
            (("dict1", ((ONE, THREE), (EMPTY, TWO)), B, ((C, D),), ENV),))
        self.goes(
            ("value", THREE), (("dict2", done, ("int", 9), (), ENV),), ("value", ("ref", ENV + 1)),
            made=(("dict", done + ((("int", 9), THREE),)),))

    def test_what_can_be_no_key(self):
        for rest in ((), ((A, B),)):
            self.raises(
                ("value", ONE), (("dict2", (), ("ref", ENV + 1), rest, ENV),), 10, "not a key: list",
                objects=(LIST,))
            self.raises(
                ("value", ONE), (("dict2", (), BOX, rest, ENV),), 10, "not a key: Box",
                objects=own("op_eq", "op_hash"))


class Arguments(Steps, unittest.TestCase):
    def test_none(self):
        self.goes(("value", ONE), (("call1", (), (), ENV),), ("call", ONE, (), ()))

    def test_the_first(self):
        self.goes(
            ("value", ONE), (("call1", (A, B), (("k", C),), ENV),), evaluation(A),
            (("args", ONE, (), (A, B), (), (("k", C),), ENV),))
        self.goes(
            ("value", ONE), (("call1", (), (("k", C), ("j", D)), ENV),), evaluation(C),
            (("args", ONE, (), (), (), (("k", C), ("j", D)), ENV),))

    def test_by_place(self):
        later = (("k", C),)
        self.goes(
            ("value", TWO), (("args", ONE, (THREE,), (A, B), (), later, ENV),), evaluation(B),
            (("args", ONE, (THREE, TWO), (B,), (), later, ENV),))
        self.goes(
            ("value", TWO), (("args", ONE, (THREE,), (A,), (), later, ENV),), evaluation(C),
            (("args", ONE, (THREE, TWO), (), (), later, ENV),))
        self.goes(
            ("value", TWO), (("args", ONE, (THREE,), (A,), (), (), ENV),),
            ("call", ONE, (THREE, TWO), ()))

    def test_by_name(self):
        later = (("k", C), ("j", D))
        self.goes(
            ("value", TWO), (("args", ONE, (THREE,), (), (), later, ENV),), evaluation(D),
            (("args", ONE, (THREE,), (), (("k", TWO),), later[1:], ENV),))
        self.goes(
            ("value", TWO), (("args", ONE, (), (), (("k", THREE),), later[1:], ENV),),
            ("call", ONE, (), (("k", THREE), ("j", TWO))))


if __name__ == "__main__":
    unittest.main()
