"""Blocks and stores by steps: each row of the tables of m4, and m5 and m6."""

import unittest

from pyhold.core import start_heap
from tests.heaps import NO, NONE, YES, ints, texts
from tests.helpers import name
from tests.steps import ENV, SCOPE, Steps
from tests.test_machine_expressions import BOX, FALSE_VALUES, FUNCTION, LIST, THINGS, TRUE_VALUES, own

A, B, C, D = name("a"), name("b"), name("c"), name("d")
ONE, TWO, THREE = ints(1, 2, 3)
X, Y = (("pass", 8),), (("break", 9),)
DONE = ("done",)
AGAIN = (("raise", 7, ()),)
# An exception: an instance of KeyError, a class below it, and an instance of that.
FAULT, BELOW = ("ref", ENV + 1), ("ref", ENV + 3)
FAULTS = (("inst", 7, ()), ("class", "Mine", 7, ()), ("inst", ENV + 2, ()))
STOP = (("inst", 12, ()), ("class", "Stop", 12, ()), ("inst", ENV + 2, ()))


def scope(*variables):
    return (ENV, ("scope", variables, SCOPE[2], SCOPE[3], 0, False))


def leave_raise(value):
    return ("leave", ("raise", value))


class Blocks(Steps, unittest.TestCase):
    def begins(self, statement, came, *frames, line=7, **others):
        """A statement begins so, alone and with others behind it."""
        rest = (("pass", 20), ("break", 21))
        self.goes(("exec", (statement,), ENV), (), came, frames, line=line, **others)
        self.goes(
            ("exec", (statement,) + rest, ENV), (), came, frames + (("rest", rest, ENV),), line=line, **others)

    def test_the_empty_block(self):
        self.goes(("exec", (), ENV), (), DONE)

    def test_rest(self):
        self.goes(DONE, (("rest", X, ENV),), ("exec", X, ENV))

    def test_one_part(self):
        first = ("eval", A, ENV)
        self.begins(("do", 7, A), first, ("drop",))
        self.begins(("set", 7, B, A), first, ("put", B, ENV))
        self.begins(("change", 7, "//", B, A), ("eval", ("bin", "//", B, A), ENV), ("put", B, ENV))
        self.begins(("drop", 7, ("item", A, B)), first, ("del1", B, ENV))
        self.begins(("return", 7, A), first, ("ret",))
        self.begins(("raise", 7, A), first, ("throw",))
        self.begins(("if", 7, A, X, Y), first, ("if", X, Y, ENV))
        self.begins(("while", 7, A, X), first, ("while1", A, X, ENV, 7))
        self.begins(("for", 7, B, A, X), first, ("for1", B, X, ENV, 7))
        self.begins(("yield", 7, B, A), first, ("giving", B, ENV))
        self.begins(("yield", 7, (), A), first, ("giving", (), ENV))

    def test_no_part(self):
        for statement in (("pass", 7), ("global", 7, ("a",)), ("nonlocal", 7, ("a", "b"))):
            self.begins(statement, DONE)
        self.begins(("break", 7), ("leave", ("break",)))
        self.begins(("continue", 7), ("leave", ("continue",)))

    def test_the_end_of_an_expression(self):
        self.goes(("value", ONE), (("drop",),), DONE)
        self.goes(("value", ONE), (("put", B, ENV),), ("store", B, ONE, ENV))
        self.goes(("value", ONE), (("ret",),), ("leave", ("return", ONE)))

    def test_deleting_a_name(self):
        self.begins(("drop", 7, A), DONE, changed=(scope(("b", ("text", "x"))),))
        words = "not bound: c"
        self.raises(("exec", (("drop", 7, C),), ENV), (), 8, words, line=7)
        self.raises(("exec", (("drop", 7, C),) + X, ENV), (), 8, words, (("rest", X, ENV),), line=7)
        self.raises(("exec", (("drop", 7, name("len")),), ENV + 1), (), 8, "not bound: len",
                    objects=(("scope", (), ("len",), (), 0, False),), line=7)

    def test_deleting_an_item(self):
        self.goes(("value", ONE), (("del1", B, ENV),), ("eval", B, ENV), (("del2", ONE),))
        frames = (("del2", ("ref", ENV + 1)),)
        self.goes(
            ("value", ONE), frames, DONE, objects=(LIST,), changed=((ENV + 1, ("list", ints(4, 6))),))
        self.raises(("value", THREE), frames, 6, "index out of range", objects=(LIST,))
        self.raises(("value", THREE), (("del2", ONE),), 10, "items cannot be deleted: int")
        self.goes(
            ("value", ONE), (("del2", BOX),), ("call", FUNCTION, (BOX, ONE), ()),
            (("want", "nothing"), ("forget",)), own("op_drop"))
        self.raises(("value", ONE), (("del2", BOX),), 10, "items cannot be deleted: Box", objects=own("op_put"))

    def test_forget(self):
        self.goes(("value", NONE), (("forget",),), DONE)

    def test_if(self):
        for v in TRUE_VALUES:
            self.goes(("value", v), (("if", X, Y, ENV),), ("exec", X, ENV), objects=THINGS)
        for v in FALSE_VALUES:
            self.goes(("value", v), (("if", X, Y, ENV),), ("exec", Y, ENV), objects=THINGS)

    def test_yield(self):
        self.goes(("value", ONE), (("giving", B, ENV),), ("give", ONE), (("sent", B, ENV),))
        self.goes(("value", ONE), (("giving", (), ENV),), ("give", ONE), (("sent", (), ENV),))
        self.goes(("value", ONE), (("sent", B, ENV),), ("store", B, ONE, ENV))
        self.goes(("value", ONE), (("sent", (), ENV),), DONE)


class Raising(Steps, unittest.TestCase):
    def test_exceptions(self):
        for value in (FAULT, BELOW):
            self.goes(("value", value), (("throw",),), leave_raise(value), objects=FAULTS)

    def test_classes(self):
        for value in (("ref", 1), ("ref", 14), ("ref", ENV + 2)):
            self.goes(("value", value), (("throw",),), ("call", value, (), ()), (("throw",),), FAULTS)

    def test_others(self):
        for value in (NONE, ONE, ("text", "a"), ("built", "len"), BOX, ("ref", ENV + 2), ("ref", ENV)):
            self.raises(("value", value), (("throw",),), 10, "not an exception", objects=own())

    def test_again(self):
        control = ("exec", AGAIN, ENV)
        for frames in (
                (("handling", FAULT),),
                (("final", X, ENV), ("class2", "C", -1, ENV, ENV), ("handling", FAULT), ("handling", BELOW)),
                (("handling", FAULT), ("body", "f", 1), ("handling", BELOW))):
            self.goes(control, frames, leave_raise(FAULT), frames, FAULTS, line=7)
        frames = (("after", ()), ("handling", BELOW))
        self.goes(
            ("exec", AGAIN + X, ENV), frames, leave_raise(BELOW), (("rest", X, ENV),) + frames, FAULTS, line=7)

    def test_nothing_to_raise_again(self):
        for frames in (
                (), (("catch", (), ENV),), (("body", "f", 1), ("handling", FAULT)),
                (("after", ()), ("genbody", ENV, "f", 1, "next"), ("handling", FAULT))):
            self.raises(
                ("exec", AGAIN, ENV), frames, 13, "nothing to raise again", frames, FAULTS, line=7)


class Loops(Steps, unittest.TestCase):
    def test_while(self):
        one, two = ("while1", A, X, ENV, 3), ("while2", A, X, ENV, 3)
        for v in TRUE_VALUES:
            self.goes(("value", v), (one,), ("exec", X, ENV), (two,), THINGS)
        for v in FALSE_VALUES:
            self.goes(("value", v), (one,), DONE, (), THINGS)
        for came in (DONE, ("leave", ("continue",))):
            self.goes(came, (two,), ("eval", A, ENV), (one,), line=3)
        self.goes(("leave", ("break",)), (two,), DONE)
        for signal in (("return", ONE), ("raise", FAULT)):
            self.goes(("leave", signal), (two,), ("leave", signal), objects=FAULTS)

    def test_the_iterator(self):
        one, two = ("for1", A, X, ENV, 3), ("for2", A, X, ENV, 3)
        value = ("ref", ENV + 1)
        self.goes(
            ("value", value), (one,), ("value", ("ref", ENV + 2)), (two,), (LIST,), (("iter", value, 0, -1),))
        self.goes(
            ("value", BOX), (one,), ("call", FUNCTION, (BOX,), ()), (("want", "iterator"), two),
            own("op_iter", "op_next"))
        self.goes(("value", BOX), (one,), ("value", BOX), (two,), own("op_next"))
        self.raises(("value", ONE), (one,), 10, "int cannot be iterated", (two,))
        self.raises(("value", BOX), (one,), 10, "Box cannot be iterated", (two,), own("op_item", "op_len"))

    def test_the_first_element(self):
        two, it = ("for2", A, X, ENV, 3), ("ref", ENV + 1)
        three = ("for3", it, A, X, ENV, 3)
        self.goes(
            ("value", it), (two,), ("value", ("text", "h")), (three,), (("iter", ("text", "hi"), 0, -1),),
            changed=((ENV + 1, ("iter", ("text", "hi"), 1, -1)),))
        self.raises(
            ("value", it), (two,), 12, "", (three,), (("iter", ("text", ""), 0, -1),),
            changed=((ENV + 1, ("iter", NONE, 0, -1)),))
        self.goes(
            ("value", it), (two,), ("resume", ENV + 1, "next", NONE), (three,), (("gen", "g", "new", ()),))
        self.goes(
            ("value", BOX), (two,), ("call", FUNCTION, (BOX,), ()), (("for3", BOX, A, X, ENV, 3),),
            own("op_next"))
        self.raises(("value", ONE), (two,), 10, "int is no iterator", (("for3", ONE, A, X, ENV, 3),))

    def test_an_element(self):
        self.goes(
            ("value", ONE), (("for3", TWO, A, X, ENV, 3),), ("store", A, ONE, ENV),
            (("for4", TWO, A, X, ENV, 3),))
        self.goes(DONE, (("for4", TWO, A, X, ENV, 3),), ("exec", X, ENV), (("for5", TWO, A, X, ENV, 3),))

    def test_the_end(self):
        frame = ("for3", TWO, A, X, ENV, 3)
        for value in (FAULT, BELOW):
            self.goes(leave_raise(value), (frame,), DONE, (), STOP)
            self.goes(leave_raise(value), (frame,), leave_raise(value), (), FAULTS)
            for other in ("for1", "for2"):
                self.goes(
                    leave_raise(value), ((other, A, X, ENV, 3),), leave_raise(value), (), STOP)
            for other in ("for4", "for5"):
                self.goes(
                    leave_raise(value), ((other, TWO, A, X, ENV, 3),), leave_raise(value), (), STOP)
        for signal in (("break",), ("continue",), ("return", FAULT)):
            self.goes(("leave", signal), (frame,), ("leave", signal), (), STOP)

    def test_a_round(self):
        it = ("ref", ENV + 1)
        frame = ("for5", it, A, X, ENV, 3)
        before, behind = ("iter", ("span", 4, 9), 2, -1), ("iter", ("span", 4, 9), 3, -1)
        for came in (DONE, ("leave", ("continue",))):
            self.goes(
                came, (frame,), ("value", ("int", 6)), (("for3", it, A, X, ENV, 3),), (before,),
                changed=((ENV + 1, behind),), line=3)
        self.goes(("leave", ("break",)), (frame,), DONE, (), (before,))
        for signal in (("return", ONE), ("raise", ("ref", 17))):
            self.goes(("leave", signal), (frame,), ("leave", signal), (), (before,))


class Definitions(Steps, unittest.TestCase):
    NAMES = (("p", "q"), ("g",), True)

    def function(self, defaults, params=("p", "q", "r")):
        return ("func", "f", params, defaults, X, self.NAMES, ENV)

    def test_a_def_without_defaults(self):
        for params in ((), (("p", ()),), (("p", ()), ("q", ()))):
            statement = ("def", 7, "f", params, X, self.NAMES)
            self.goes(
                ("exec", (statement,), ENV), (), ("store", name("f"), ("ref", ENV + 1), ENV),
                made=(self.function((), tuple(x for x, _ in params)),), line=7)

    def test_defaults(self):
        params = (("p", ()), ("q", A), ("r", B))
        statement = ("def", 7, "f", params, X, self.NAMES)
        first = ("def", "f", params, X, self.NAMES, (), params[1:], ENV)
        second = ("def", "f", params, X, self.NAMES, (("q", ONE),), params[2:], ENV)
        self.goes(("exec", (statement,), ENV), (), ("eval", A, ENV), (first,), line=7)
        self.goes(("value", ONE), (first,), ("eval", B, ENV), (second,))
        self.goes(
            ("value", TWO), (second,), ("store", name("f"), ("ref", ENV + 1), ENV),
            made=(self.function((("q", ONE), ("r", TWO))),))

    def test_a_class_without_a_base(self):
        statement = ("class", 7, "K", (), X, self.NAMES)
        self.goes(
            ("exec", (statement,), ENV), (), ("exec", X, ENV + 1), (("class2", "K", -1, ENV + 1, ENV),),
            made=(("scope", (), ("p", "q"), ("g",), ENV, True),), line=7)

    def test_a_class_with_a_base(self):
        statement = ("class", 7, "K", A, X, self.NAMES)
        frame = ("class1", "K", X, self.NAMES, ENV)
        self.goes(("exec", (statement,), ENV), (), ("eval", A, ENV), (frame,), line=7)
        self.goes(
            ("value", ("ref", 7)), (frame,), ("exec", X, ENV + 1), (("class2", "K", 7, ENV + 1, ENV),),
            made=(("scope", (), ("p", "q"), ("g",), ENV, True),))

    def test_bases_that_are_refused(self):
        frame = ("class1", "K", X, self.NAMES, ENV)
        for value in (NONE, ONE, ("built", "list"), BOX, ("ref", ENV), FUNCTION):
            self.raises(("value", value), (frame,), 10, "not a class", objects=own())
        line = [("class", "K0", -1, ())] + [("class", f"K{k}", ENV + k, ()) for k in range(1, 60)]
        self.raises(("value", ("ref", ENV + 60)), (frame,), 10, "too many bases", objects=line)
        self.goes(
            ("value", ("ref", ENV + 59)), (frame,), ("exec", X, ENV + 61),
            (("class2", "K", ENV + 59, ENV + 61, ENV),), line,
            (("scope", (), ("p", "q"), ("g",), ENV, True),))

    def test_the_end_of_a_class(self):
        members = (("x", ONE), ("y", TWO))
        objects = (("scope", members, ("x", "y"), (), ENV, True),)
        for base in (-1, 7):
            self.goes(
                DONE, (("class2", "K", base, ENV + 1, ENV),), ("store", name("K"), ("ref", ENV + 2), ENV), (),
                objects, (("class", "K", base, members),))


class Trying(Steps, unittest.TestCase):
    HANDLERS = ((4, A, "e", X), (5, B, "", Y), (6, (), "", ()))

    def test_beginning(self):
        for handlers in ((), self.HANDLERS[:1], self.HANDLERS):
            for last in ((), Y):
                frames = ()
                if last:
                    frames = (("final", last, ENV),)
                if handlers:
                    frames = (("catch", handlers, ENV),) + frames
                self.goes(
                    ("exec", (("try", 7, X, handlers, last),), ENV), (), ("exec", X, ENV), frames, line=7)

    def test_catch(self):
        frame = ("catch", self.HANDLERS, ENV)
        self.goes(DONE, (frame,), DONE)
        self.goes(
            leave_raise(FAULT), (frame,), ("eval", A, ENV), (("match", FAULT, self.HANDLERS, ENV),), FAULTS)
        for signal in (("break",), ("continue",), ("return", FAULT)):
            self.goes(("leave", signal), (frame,), ("leave", signal), objects=FAULTS)

    def test_a_handler_for_all(self):
        self.goes(
            leave_raise(FAULT), (("catch", ((4, (), "", X),), ENV),), ("exec", X, ENV), (("handling", FAULT),),
            FAULTS, line=4)

    def test_a_handler_that_is_taken(self):
        for value, k in ((FAULT, 7), (FAULT, 5), (FAULT, 1), (BELOW, 7), (BELOW, ENV + 2)):
            frame = ("match", value, self.HANDLERS, ENV)
            self.goes(
                ("value", ("ref", k)), (frame,), ("exec", X, ENV), (("handling", value),), FAULTS,
                changed=self.bound("e", value), line=4)
        self.goes(
            ("value", ("ref", 7)), (("match", FAULT, self.HANDLERS[1:], ENV),), ("exec", Y, ENV),
            (("handling", FAULT),), FAULTS, line=5)

    def bound(self, x, value):
        """The module has the name: it is not among the locals of the scope."""
        module = start_heap(("ask",))[0]
        return ((0, ("scope", module[1] + ((x, value),)) + module[2:]),)

    def test_a_handler_that_is_not_taken(self):
        for value, k in ((FAULT, 6), (FAULT, ENV + 2), (BELOW, 8)):
            self.goes(
                ("value", ("ref", k)), (("match", value, self.HANDLERS, ENV),), ("eval", B, ENV),
                (("match", value, self.HANDLERS[1:], ENV),), FAULTS)
            self.goes(
                ("value", ("ref", k)), (("match", value, self.HANDLERS[:1], ENV),), leave_raise(value), (),
                FAULTS)
            self.goes(
                ("value", ("ref", k)), (("match", value, self.HANDLERS[1:], ENV),), ("exec", (), ENV),
                (("handling", value),), FAULTS, line=6)

    def test_no_class(self):
        for value in (NONE, ("text", "KeyError"), FAULT, ("built", "int")):
            self.raises(
                ("value", value), (("match", FAULT, self.HANDLERS, ENV),), 10, "not a class", objects=FAULTS)

    def test_a_fault_while_matching(self):
        frame = ("match", FAULT, self.HANDLERS, ENV)
        self.goes(leave_raise(BELOW), (frame,), leave_raise(BELOW), (), FAULTS)

    def test_handling(self):
        self.goes(DONE, (("handling", FAULT),), DONE, objects=FAULTS)
        for signal in (("break",), ("continue",), ("return", ONE), ("raise", BELOW)):
            self.goes(("leave", signal), (("handling", FAULT),), ("leave", signal), objects=FAULTS)

    def test_final(self):
        frame = ("final", X, ENV)
        self.goes(DONE, (frame,), ("exec", X, ENV), (("after", ()),))
        for signal in (("break",), ("continue",), ("return", ONE), ("raise", FAULT)):
            self.goes(("leave", signal), (frame,), ("exec", X, ENV), (("after", signal),), FAULTS)

    def test_after(self):
        self.goes(DONE, (("after", ()),), DONE)
        for signal in (("break",), ("continue",), ("return", ONE), ("raise", FAULT)):
            self.goes(DONE, (("after", signal),), ("leave", signal), objects=FAULTS)
            self.goes(leave_raise(BELOW), (("after", signal),), leave_raise(BELOW), objects=FAULTS)


class Stores(Steps, unittest.TestCase):
    def test_a_name(self):
        self.goes(
            ("store", A, TWO, ENV), (), DONE, changed=(scope(("a", TWO), ("b", ("text", "x"))),))
        self.goes(("store", C, TWO, ENV), (), DONE, changed=(scope(*SCOPE[1], ("c", TWO)),))

    def test_an_attribute(self):
        self.goes(("store", ("attr", A, "x"), TWO, ENV), (), ("eval", A, ENV), (("setattr", "x", TWO),))
        objects = own()
        self.goes(
            ("value", BOX), (("setattr", "x", TWO),), DONE, (), objects,
            changed=((ENV + 3, ("inst", ENV + 2, (("x", TWO),))),))
        self.raises(("value", ("ref", 7)), (("setattr", "x", TWO),), 9, "class KeyError cannot be changed")
        self.raises(("value", ONE), (("setattr", "x", TWO),), 9, "int has no attribute x")

    def test_an_item(self):
        self.goes(("store", ("item", A, B), TWO, ENV), (), ("eval", A, ENV), (("seti1", B, TWO, ENV),))
        self.goes(("value", ONE), (("seti1", B, TWO, ENV),), ("eval", B, ENV), (("seti2", ONE, TWO),))
        frames = (("seti2", ("ref", ENV + 1), TWO),)
        self.goes(
            ("value", ONE), frames, DONE, (), (LIST,), changed=((ENV + 1, ("list", ints(4, 2, 6))),))
        self.raises(("value", THREE), frames, 6, "index out of range", objects=(LIST,))
        self.raises(("value", THREE), (("seti2", ONE, TWO),), 10, "items cannot be set: int")
        self.goes(
            ("value", ONE), (("seti2", BOX, TWO),), ("call", FUNCTION, (BOX, ONE, TWO), ()),
            (("want", "nothing"), ("forget",)), own("op_put"))
        self.raises(
            ("value", ONE), (("seti2", BOX, TWO),), 10, "items cannot be set: Box", objects=own("op_item"))

    def test_a_tuple(self):
        targets = (A, ("attr", B, "x"), C)
        put = (("unpack", targets[1:], texts("b", "c"), ENV),)
        store = ("store", ("tuple", targets), ("text", "abc"), ENV)
        self.goes(store, (), ("store", A, ("text", "a"), ENV), put)
        for row in (("tuple", texts("a", "b", "c")), ("list", texts("a", "b", "c"))):
            store = ("store", ("tuple", targets), ("ref", ENV + 1), ENV)
            self.goes(store, (), ("store", A, ("text", "a"), ENV), put, (row,))
        store = ("store", ("tuple", targets), ("span", 1, 4), ENV)
        self.goes(
            store, (), ("store", A, ONE, ENV), (("unpack", targets[1:], (TWO, THREE), ENV),))
        self.goes(
            ("store", ("tuple", (A,)), ("span", 1, 2), ENV), (), ("store", A, ONE, ENV),
            (("unpack", (), (), ENV),))
        self.goes(("store", ("tuple", ()), ("text", ""), ENV), (), DONE)

    def test_what_cannot_be_unpacked(self):
        target = ("tuple", (A, B))
        for value in (NONE, ONE, YES, ("ref", ENV + 1), ("ref", ENV + 2), BOX, ("built", "len")):
            objects = (("dict", ((ONE, TWO), (TWO, TWO))), ("iter", ("text", "ab"), 0, -1), ("inst", 5, ()))
            self.raises(("store", target, value, ENV), (), 10, "not iterable", objects=objects)
        for value in (("text", "a"), ("text", "abc"), ("span", 0, 2 ** 255), ("span", 5, 5), ("ref", ENV + 1)):
            self.raises(
                ("store", target, value, ENV), (), 11, "wrong number of values", objects=(LIST,))
        self.raises(("store", ("tuple", ()), ("text", "a"), ENV), (), 11, "wrong number of values")
        self.raises(("store", ("tuple", ()), NO, ENV), (), 10, "not iterable")

    def test_unpack(self):
        self.goes(
            DONE, (("unpack", (A, B), (ONE, TWO), ENV),), ("store", A, ONE, ENV),
            (("unpack", (B,), (TWO,), ENV),))
        self.goes(
            DONE, (("unpack", (B,), (TWO,), ENV),), ("store", B, TWO, ENV), (("unpack", (), (), ENV),))
        self.goes(DONE, (("unpack", (), (), ENV),), DONE)


if __name__ == "__main__":
    unittest.main()
