"""Calls by the kind of what is called, the frames of calls, and the base of a class (k0, k6, k7, k9, k17, k18)."""

import unittest

from pyhold.calls import call, meet
from pyhold.frames import FIELDS
from tests.heaps import NO, NONE, YES, ints, texts
from tests.machines import fields
from tests.steps import ENV, Programs, Steps

ONE, TWO, THREE = ints(1, 2, 3)
BODY = (("pass", 3),)
DONE = ("done",)
STOP = (("inst", 12, ()), ("class", "Stop", 12, ()), ("inst", ENV + 2, ()), ("inst", 7, ()))
STOPS = (("ref", ENV + 1), ("ref", ENV + 3))
FAULT = ("ref", ENV + 4)
SIGNALS = (("break",), ("continue",), ("return", ONE), ("raise", FAULT))


def function(params=("p", "q"), defaults=(("q", ONE),), makes=False, name="f"):
    return ("func", name, params, defaults, BODY, (params + ("z",), ("g",), makes), ENV)


def scope_of(*variables):
    return ("scope", variables, ("p", "q", "z"), ("g",), ENV, False)


class Calls(Steps, unittest.TestCase):
    """Each call by `call` alone, and by a step."""

    def calls(self, f, args, named, objects, came, put=(), made=(), **others):
        self.goes(("call", f, args, named), (), came, put, objects, made, **others)
        machine = self.machine(("done",), (), objects)
        before = fields(machine)
        self.assertIsNone(call(machine, f, args, named))
        before.update(others)
        before["control"] = came
        before["frames"] = list(put) + before["frames"]
        before["heap"] = before["heap"] + list(made)
        self.assertEqual(fields(machine), before)

    def refuses(self, f, args, named, objects, words, n=10, put=()):
        size = ENV + 1 + len(objects)
        made = (("tuple", (("text", words),)), ("inst", n, (("args", ("ref", size)),)))
        self.calls(f, args, named, objects, ("leave", ("raise", ("ref", size + 1))), put, made)


class Functions(Calls):
    F = ("ref", ENV + 1)

    def test_a_function(self):
        self.calls(
            self.F, (TWO,), (), (function(),), ("exec", BODY, ENV + 2), (("body", "f", 5),),
            (scope_of(("p", TWO), ("q", ONE)),), here="f", active=5)
        self.calls(
            self.F, (), (("q", THREE), ("p", TWO)), (function(name="other"),), ("exec", BODY, ENV + 2),
            (("body", "f", 5),), (scope_of(("p", TWO), ("q", THREE)),), here="other", active=5)

    def test_binding_is_refused(self):
        for makes in (False, True):
            objects = (function(makes=makes),)
            self.refuses(self.F, ints(1, 2, 3), (("x", ONE),), objects, "f() takes too many arguments")
            self.refuses(self.F, (ONE,), (("x", ONE), ("p", ONE)), objects, "f() has no parameter x")
            self.refuses(self.F, (ONE,), (("p", ONE),), objects, "f() was given p twice")
            self.refuses(self.F, (), (("q", ONE),), objects, "f() needs p")

    def test_too_many_calls(self):
        for active in (59, 60, 61):
            for args, words in (((ONE,), ("too many calls", 14)), ((), ("f() needs p", 10))):
                machine = self.machine(("call", self.F, args, ()), (), (function(),))
                machine.active = active
                size = len(machine.heap)
                call(machine, self.F, args, ())
                if active == 59 and args:
                    self.assertEqual((machine.control[0], machine.active), ("exec", 60))
                    continue
                text, n = words
                self.assertEqual(machine.active, active)
                self.assertEqual(machine.heap[size:], [
                    ("tuple", (("text", text),)), ("inst", n, (("args", ("ref", size)),))])

    def test_a_function_with_yield(self):
        made = (scope_of(("p", TWO), ("q", ONE)), ("gen", "f", "new", (("begin", BODY, ENV + 2),)))
        self.calls(self.F, (TWO,), (), (function(makes=True),), ("value", ("ref", ENV + 3)), (), made)
        machine = self.machine(DONE, (), (function(makes=True),))
        machine.active = 60
        call(machine, self.F, (TWO,), ())
        self.assertEqual((machine.control, machine.active), (("value", ("ref", ENV + 3)), 60))


class Classes(Calls):
    K = ("ref", ENV + 2)

    def objects(self, base=-1, **members):
        pairs = tuple((x, value) for x, value in members.items())
        return (function(), ("class", "K", base, pairs))

    def test_without_op_init(self):
        made = (("inst", ENV + 2, ()),)
        for objects in (self.objects(), self.objects(op_init=ONE), self.objects(op_init=("ref", 1), a=TWO)):
            self.calls(self.K, (), (), objects, ("value", ("ref", ENV + 3)), (), made)
        for args, named in (((ONE,), ()), ((), (("a", ONE),)), ((ONE,), (("a", ONE),))):
            self.refuses(self.K, args, named, self.objects(), "K() takes no arguments")

    def test_exceptions(self):
        for args in ((), (ONE,), (ONE, ("text", "a"), ("ref", 3))):
            made = (("tuple", args), ("inst", 6, (("args", ("ref", ENV + 1)),)))
            self.calls(("ref", 6), args, (), (), ("value", ("ref", ENV + 2)), (), made)
            made = (("tuple", args), ("inst", ENV + 2, (("args", ("ref", ENV + 3)),)))
            self.calls(self.K, args, (), self.objects(14), ("value", ("ref", ENV + 4)), (), made)
            self.refuses(
                self.K, args, (("a", ONE),), self.objects(14), "K() takes no named arguments")
        self.refuses(("ref", 1), (), (("a", ONE),), (), "Exception() takes no named arguments")

    def test_with_op_init(self):
        f, instance = ("ref", ENV + 1), ("ref", ENV + 3)
        for args, named in (((), ()), (ints(1, 2, 3), ()), ((ONE,), (("a", TWO),))):
            self.calls(
                self.K, args, named, self.objects(op_init=f), ("call", f, (instance,) + args, named),
                (("init", instance),), (("inst", ENV + 2, ()),))
            made = (("tuple", args), ("inst", ENV + 2, (("args", instance),)))
            exception = ("ref", ENV + 4)
            self.calls(
                self.K, args, named, self.objects(7, op_init=f), ("call", f, (exception,) + args, named),
                (("init", exception),), made)

    def test_op_init_of_a_base(self):
        f = ("ref", ENV + 1)
        objects = self.objects(op_init=f) + (("class", "L", ENV + 2, ()),)
        self.calls(
            ("ref", ENV + 3), (ONE,), (), objects, ("call", f, (("ref", ENV + 4), ONE), ()),
            (("init", ("ref", ENV + 4)),), (("inst", ENV + 3, ()),))


class Others(Calls):
    def test_bound(self):
        for f in (("ref", ENV), ("built", "list.append"), ("host", "ask")):
            self.calls(
                ("ref", ENV + 1), (ONE,), (("a", TWO),), (("bound", THREE, f),),
                ("call", f, (THREE, ONE), (("a", TWO),)))

    def test_instances(self):
        f, box = ("ref", ENV + 1), ("ref", ENV + 3)
        objects = (function(), ("class", "K", -1, (("op_call", f),)), ("inst", ENV + 2, ()))
        self.calls(box, (ONE,), (("a", TWO),), objects, ("call", f, (box, ONE), (("a", TWO),)))
        for members, own in (((), (("op_call", f),)), ((("op_call", ONE),), ()), ((("op_init", f),), ())):
            objects = (function(), ("class", "K", -1, members), ("inst", ENV + 2, own))
            self.refuses(box, (), (), objects, "K cannot be called")

    def test_what_cannot_be_called(self):
        objects = (
            ("list", ()), ("tuple", ()), ("dict", ()), ("iter", NONE, 0, -1), ("gen", "g", "over", ()))
        kinds = ("list", "tuple", "dict", "iterator", "generator")
        for at, kind in enumerate(kinds):
            self.refuses(("ref", ENV + 1 + at), (ONE,), (("a", TWO),), objects, kind + " cannot be called")
        for value, kind in ((NONE, "NoneType"), (YES, "bool"), (ONE, "int"), (("text", "len"), "str"),
                            (("span", 1, 2), "range")):
            self.refuses(value, (), (), (), kind + " cannot be called")

    def test_built_in(self):
        self.calls(("built", "len"), (("text", "abc"),), (), (), ("value", THREE))
        self.refuses(("built", "len"), (), (), (), "len() takes a different number of arguments")
        self.refuses(("built", "len"), (), (("a", ONE),), (), "len() takes no named arguments")

    def test_a_function_of_the_host(self):
        objects = (("list", ints(1, 2)), ("list", (("ref", ENV + 2),)))
        for args in ((), (ONE, NONE), (("ref", ENV + 1), ("text", "a"))):
            self.calls(("host", "ask"), args, (), objects, ("ask", "ask", args))
        for args in ((("ref", ENV + 2),), (ONE, ("ref", 1)), (("span", 0, 1), ONE), (("built", "len"),)):
            self.refuses(("host", "ask"), args, (), objects, "argument cannot go out")
            self.refuses(("host", "ask"), args, (("a", ONE),), objects, "ask() takes no named arguments")


class Frames(Steps, unittest.TestCase):
    """Each frame of the part by `meet` alone, and by a step."""

    def meets(self, came, frame, control, put=(), objects=STOP, made=(), changed=(), **others):
        self.goes(came, (frame,), control, put, objects, made, changed, **others)
        machine = self.machine(came, (), objects)
        before = fields(machine)
        self.assertIsNone(meet(machine, frame))
        before.update(others)
        before["control"] = control
        before["frames"] = list(put) + before["frames"]
        before["heap"] = before["heap"] + list(made)
        for k, found in changed:
            before["heap"][k] = found
        self.assertEqual(fields(machine), before)

    def refuses(self, came, frame, n, words, objects=STOP, **others):
        size = ENV + 1 + len(objects)
        made = (("tuple", (("text", words),)), ("inst", n, (("args", ("ref", size)),)))
        self.meets(came, frame, ("leave", ("raise", ("ref", size + 1))), (), objects, made, **others)

    def passes(self, frame, signals=SIGNALS):
        for signal in signals:
            self.meets(("leave", signal), frame, ("leave", signal))

    def test_the_kinds(self):
        letters = {"body": "xn", "init": "v", "genbody": "axnx", "begin": "ta", "want": "x", "print": "vV",
                   "gather1": "x", "gather": "xvV", "default": "v"}
        self.assertEqual({kind: FIELDS[kind] for kind in letters}, letters)
        self.assertEqual(list(FIELDS)[-len(letters):], list(letters))

    def test_body(self):
        frame = ("body", "g", 9)
        others = {"here": "g", "line": 9, "active": 3}
        self.meets(DONE, frame, ("value", NONE), **others)
        self.meets(("leave", ("return", TWO)), frame, ("value", TWO), **others)
        self.meets(("leave", ("raise", FAULT)), frame, ("leave", ("raise", FAULT)), **others)

    def test_init(self):
        frame = ("init", FAULT)
        self.meets(("value", NONE), frame, ("value", FAULT))
        for value in (NO, ("int", 0), ("text", ""), FAULT):
            self.refuses(("value", value), frame, 10, "op_init() must give None")
        self.passes(frame)

    def test_want_bool(self):
        for value in (True, False):
            self.meets(("value", ("bool", value)), ("want", "bool"), ("value", ("bool", value)))
            self.meets(("value", ("bool", value)), ("want", "notbool"), ("value", ("bool", not value)))
        for what in ("bool", "notbool"):
            for value in (NONE, ONE, ("int", 0), ("text", ""), FAULT):
                self.refuses(("value", value), ("want", what), 10, "method must give a boolean")

    def test_want_count(self):
        for value in (("int", 0), ONE, ("int", 2 ** 256 - 1)):
            self.meets(("value", value), ("want", "count"), ("value", value))
        for value in (YES, NO, ("int", -1), NONE, ("text", "1"), FAULT):
            self.refuses(("value", value), ("want", "count"), 10, "method must give a count")

    def test_want_text(self):
        for value in texts("", "a"):
            self.meets(("value", value), ("want", "text"), ("value", value))
        for value in (NONE, ONE, YES, FAULT):
            self.refuses(("value", value), ("want", "text"), 10, "method must give a text")

    def test_want_iterator(self):
        objects = (
            ("iter", NONE, 0, -1), ("gen", "g", "over", ()), function(),
            ("class", "K", -1, (("op_next", ("ref", ENV + 3)),)), ("inst", ENV + 4, ()),
            ("class", "L", -1, (("op_iter", ("ref", ENV + 3)), ("op_next", ONE))),
            ("inst", ENV + 6, (("op_next", ("ref", ENV + 3)),)), ("list", ()))
        for k in (1, 2, 5):
            value = ("ref", ENV + k)
            self.meets(("value", value), ("want", "iterator"), ("value", value), (), objects)
        for value in (NONE, ("text", "a"), ("span", 0, 1), ("ref", ENV + 4), ("ref", ENV + 7), ("ref", ENV + 8)):
            self.refuses(
                ("value", value), ("want", "iterator"), 10, "method must give an iterator", objects)

    def test_want_nothing(self):
        for value in (NONE, ONE, YES, FAULT):
            self.meets(("value", value), ("want", "nothing"), ("value", NONE))

    def test_want_lets_leaves_pass(self):
        for what in ("bool", "notbool", "count", "text", "iterator", "nothing"):
            self.passes(("want", what))

    def test_default(self):
        self.meets(("value", ONE), ("default", TWO), ("value", ONE))
        for value in STOPS:
            self.meets(("leave", ("raise", value)), ("default", TWO), ("value", TWO))
        self.passes(("default", TWO), SIGNALS + (("return", STOPS[0]),))

    def test_print(self):
        frame = ("print", ("text", "a "), ints(1, 2))
        self.meets(("value", ("text", "b")), frame, ("value", NONE), out="a\na b 1 2\n")
        self.meets(("value", ("text", "b")), ("print", ("text", ""), ()), ("value", NONE), out="a\nb\n")
        self.refuses(("value", ("text", "b" * 998)), frame, 15, "too large")
        self.passes(frame)

    def test_gather1(self):
        frame = ("gather1", "tuple")
        objects = STOP + (("iter", ("text", "hi"), 0, -1), ("gen", "g", "new", ()))
        it = ("ref", ENV + 5)
        self.meets(
            ("value", it), frame, ("value", ("text", "h")), (("gather", "tuple", it, ()),), objects,
            changed=((ENV + 5, ("iter", ("text", "hi"), 1, -1)),))
        self.meets(
            ("value", ("ref", ENV + 6)), frame, ("resume", ENV + 6, "next", NONE),
            (("gather", "tuple", ("ref", ENV + 6), ()),), objects)
        self.passes(frame, SIGNALS + (("raise", STOPS[0]), ("raise", STOPS[1])))

    def test_gather(self):
        it = ("ref", ENV + 5)
        objects = STOP + (("iter", ("text", "hi"), 1, -1),)
        for kind in ("list", "tuple"):
            frame = ("gather", kind, it, (ONE,))
            self.meets(
                ("value", TWO), frame, ("value", ("text", "i")), (("gather", kind, it, (ONE, TWO)),), objects,
                changed=((ENV + 5, ("iter", ("text", "hi"), 2, -1)),))
            for value in STOPS:
                self.meets(
                    ("leave", ("raise", value)), frame, ("value", ("ref", ENV + 6)), (), objects,
                    ((kind, (ONE,)),))
            self.passes(frame)
            got = ints(*range(999))
            frame = ("gather", kind, NONE, got)
            self.meets(
                ("value", TWO), ("gather", kind, it, got), ("value", ("text", "i")),
                (("gather", kind, it, got + (TWO,)),), objects,
                changed=((ENV + 5, ("iter", ("text", "hi"), 2, -1)),))
            self.refuses(("value", TWO), ("gather", kind, it, got + (ONE,)), 15, "too large", objects)

    def test_begin(self):
        self.meets(("value", NONE), ("begin", BODY, ENV), ("exec", BODY, ENV))
        self.passes(("begin", BODY, ENV))

    def test_genbody(self):
        objects = STOP + (("gen", "g", "running", ()),)
        over = {"changed": ((ENV + 5, ("gen", "g", "over", ())),), "here": "far", "line": 9, "active": 3}
        for how in ("next", "send", "close"):
            frame = ("genbody", ENV + 5, "far", 9, how)
            for came in (DONE, ("leave", ("return", NONE)), ("leave", ("return", ONE))):
                if how == "close":
                    self.meets(came, frame, ("value", NONE), (), objects, **over)
                else:
                    self.refuses(came, frame, 12, "", objects, **over)
            for value in STOPS:
                self.refuses(
                    ("leave", ("raise", value)), frame, 13, "generator raised StopIteration", objects, **over)
            control = ("leave", ("raise", FAULT))
            self.meets(control, frame, control, (), objects, **over)


class Bases(Programs, unittest.TestCase):
    def test_a_base_that_is_no_class(self):
        for base in ("1", "None", "len", "str", "KeyError(1)"):
            self.gives(
                f"try:\n    class K({base}):\n        print('no')\nexcept TypeError as e:\n    print(e.args)\n",
                "('not a class',)")

    def test_a_line_of_60_classes(self):
        rows = ["class C1:\n    x = 7\n"]
        rows += [f"class C{k}(C{k - 1}):\n    pass\n" for k in range(2, 61)]
        self.gives("".join(rows) + "print(C60().x)\n", "7")
        rows.append("class C61(C60):\n    print('no')\n")
        self.gives("".join(rows), ends="TypeError: 'too many bases'")

    def test_a_line_of_60_exceptions(self):
        rows = ["class C2(Exception):\n    pass\n"]
        rows += [f"class C{k}(C{k - 1}):\n    pass\n" for k in range(3, 61)]
        self.gives("".join(rows) + "raise C60(1)\n", ends="C60: 1")
        self.gives("".join(rows) + "class C61(C60):\n    pass\n", ends="TypeError: 'too many bases'")


if __name__ == "__main__":
    unittest.main()
