"""The plain meaning (e1 to e9), apart from its agreement with the machine."""

import inspect
import unittest

from pyhold.compiling import compile_text
from pyhold.core import start_heap
from pyhold.meaning import Plain, has_yield, run_plain
from pyhold.parsing import parse
from tests.heaps import NONE, YES, ints
from tests.helpers import name, num

ONE, TWO, THREE = ints(1, 2, 3)
DONE, DEEP, LONG = ("done",), ("deep",), ("long",)


def plain(hosts=("ask",), replies=(), left=1000, **variables):
    made = Plain(hosts, replies, left)
    module = made.heap[0]
    made.heap[0] = module[:1] + (module[1] + tuple(variables.items()),) + module[2:]
    return made


def expression(text):
    return parse(text)[0][2]


def run(text, hosts=(), replies=(), fuel=150, left=10000):
    return run_plain(compile_text(text), hosts, replies, fuel, left)


def variable(heap, x):
    return dict(heap[0][1])[x]


class Fields(unittest.TestCase):
    def test_fields(self):
        made = Plain(("ask", "tell"), (("value", ONE),), 7)
        self.assertEqual(vars(made), {
            "heap": start_heap(("ask", "tell")), "out": "", "active": 0, "replies": (("value", ONE),), "used": 0,
            "left": 7, "handling": []})

    def test_methods(self):
        for method, parameters in (
                ("evaluate", "e env fuel"), ("execute", "block env fuel"), ("store", "target value env fuel"),
                ("apply", "f args named fuel")):
            found = vars(Plain)[method]
            self.assertEqual(list(inspect.signature(found).parameters), ["self"] + parameters.split())

    def test_of_its_own(self):
        one, other = Plain((), (), 1), Plain((), (), 1)
        self.assertIsNot(one.heap, other.heap)
        self.assertIsNot(one.handling, other.handling)


class HasYield(unittest.TestCase):
    def test_where_it_stands(self):
        for text in (
                "def f():\n    yield\n", "def f():\n    yield 1\n", "def f():\n    x = yield 1\n",
                "if a:\n    def f():\n        yield\n", "if a:\n    pass\nelse:\n    def f():\n        yield\n",
                "class K:\n    def f(self):\n        yield\n", "def f():\n    def g():\n        yield\n",
                "def f():\n    while a:\n        yield\n", "def f():\n    for a in b:\n        yield\n",
                "def f():\n    try:\n        yield\n    finally:\n        pass\n",
                "def f():\n    try:\n        pass\n    except:\n        yield\n",
                "def f():\n    try:\n        pass\n    except K:\n        pass\n    except:\n        yield\n",
                "def f():\n    try:\n        pass\n    finally:\n        yield\n",
                "a\ndef f():\n    if a:\n        b\n    elif c:\n        yield\n"):
            self.assertIs(has_yield(compile_text(text)), True, text)

    def test_none(self):
        for text in ("", "a = 1\n", "def f():\n    return 1\n", "x = 'yield'\n",
                     "class K:\n    def f(self):\n        pass\ntry:\n    a\nexcept:\n    b\nfinally:\n    c\n"):
            self.assertIs(has_yield(compile_text(text)), False, text)


class Fuel(unittest.TestCase):
    def test_none(self):
        made = plain(a=ONE)
        before = list(made.heap)
        self.assertEqual(made.evaluate(name("a"), 0, 0), DEEP)
        self.assertEqual(made.execute(compile_text("b = 1\nprint(1)\n"), 0, 0), DEEP)
        self.assertEqual(made.execute((), 0, 0), DEEP)
        self.assertEqual(made.apply(("built", "list"), (), (), 0), DEEP)
        self.assertEqual((made.heap, made.out, made.left), (before, "", 1000))
        self.assertEqual(run("print(1)\n", fuel=0)[0], DEEP)

    def test_none_of_both(self):
        # Fuel is looked at first.
        made = plain(left=0)
        self.assertEqual(made.execute((("pass", 1),), 0, 0), DEEP)
        self.assertEqual(made.apply(("built", "list"), (), (), 0), DEEP)

    def test_nothing_left(self):
        made = plain(left=0)
        before = list(made.heap)
        self.assertEqual(made.execute(compile_text("b = 1\nprint(1)\n"), 0, 150), LONG)
        self.assertEqual(made.apply(("built", "list"), (), (), 150), LONG)
        self.assertEqual((made.heap, made.out, made.left), (before, "", 0))
        self.assertEqual(run("print(1)\n", left=0)[0], LONG)

    def test_what_is_enough(self):
        # A block, a statement and a level take one each, a built-in function two.
        self.assertEqual(run("1 + 2\n", fuel=4)[0], DONE)
        self.assertEqual(run("print(1)\n", fuel=6)[0], DONE)
        # A statement takes one, a call two.
        self.assertEqual(run("print(1)\nprint(2)\n", left=6)[0], DONE)
        rows = "def f():\n    return 1\nf()\n"
        self.assertEqual(run(rows, fuel=9, left=5)[0], DONE)
        # Three rounds, with a statement each, and the end of the loop.
        self.assertEqual(run("for k in (1, 2, 3):\n    pass\n", left=8)[0], DONE)
        self.assertEqual(run("k = 0\nwhile k < 3:\n    k += 1\n", left=9)[0], DONE)
        # A statement, two calls, and three elements.
        self.assertEqual(run("list(iter((1, 2, 3)))\n", left=8)[0], DONE)
        self.assertEqual(run("pass\n", left=1)[0], DONE)

    def test_what_is_not_enough(self):
        # Statements, calls, rounds and elements take one each.
        for text in ("pass\n" * 21, "list(iter(range(20)))\n", "for k in range(15):\n    pass\n",
                     "k = 0\nwhile k < 10:\n    k += 1\n", "".join(f"len('{k}')\n" for k in range(11))):
            self.assertEqual(run(text, left=20)[0], LONG, text)

    def test_each_takes_one(self):
        made = plain(left=10)
        self.assertEqual(made.execute((("pass", 1),) * 3, 0, 1), DONE)
        self.assertEqual(made.left, 7)
        made.apply(("built", "len"), (("text", "a"),), (), 1)
        self.assertEqual(made.left, 6)

    def test_each_hands_one_less_on(self):
        made = plain()
        made.execute(compile_text("def f():\n    pass\n"), 0, 50)
        f = variable(made.heap, "f")
        self.assertEqual(made.apply(f, (), (), 2), ("value", NONE))
        self.assertEqual(made.apply(f, (), (), 1), DEEP)
        self.assertEqual(made.execute((("do", 1, num(1)),), 0, 2), DONE)
        self.assertEqual(made.execute((("do", 1, num(1)),), 0, 1), DEEP)
        self.assertEqual(made.execute((("if", 1, num(1), (("pass", 1),), ()),), 0, 2), DONE)
        self.assertEqual(made.evaluate(("not", num(1)), 0, 2), ("value", ("bool", False)))
        self.assertEqual(made.evaluate(("not", num(1)), 0, 1), DEEP)

    def test_levels(self):
        deep = num(1)
        for _ in range(10):
            deep = ("neg", deep)
        self.assertEqual(plain().evaluate(deep, 0, 11), ("value", ONE))
        self.assertEqual(plain().evaluate(deep, 0, 10), DEEP)

    def test_nothing_is_executed_behind_them(self):
        rows = "try:\n    {}\nexcept:\n    print(1)\nfinally:\n    print(2)\n"
        outcome, _, out, _ = run(rows.format("while True:\n        pass"), left=500)
        self.assertEqual((outcome, out), (LONG, ""))
        deep = "def f():\n    f()\n"
        outcome, _, out, _ = run(deep + rows.format("f()"), fuel=50)
        self.assertEqual((outcome, out), (DEEP, ""))
        outcome, _, out, _ = run(rows.format("ask(1)"), ("ask",))
        self.assertEqual((outcome, out), (("ask", "ask", (ONE,)), ""))

    def test_the_most(self):
        # Many calls, each with blocks and expressions within one another: it ends without an error.
        rows = "def f(n):\n    try:\n        x\n    except NameError:\n        for k in Box():\n            g[f(n)] = 1\n"
        rows += "class Box:\n    def op_iter(self):\n        return iter(list(self))\n"
        rows += "    def op_next(self):\n        return str(Show())\n"
        rows += "class Show:\n    def op_str(self):\n        print(list(Box()), Show())\n        return f(1)\n"
        for row in ("f(1)\n", "print(Show())\n", "list(Box())\n"):
            self.assertIn(run(rows + row, left=10 ** 6)[0][0], ("deep", "raise"))
        target = "x"
        for _ in range(17):
            target = f"({target},)"
        value = target.replace("x", "1")
        rows = f"g = {{}}\ndef f():\n    {target.replace('x', 'g[f()]')} = {value}\nf()\n"
        self.assertEqual(run(rows)[0], DEEP)


class Expressions(unittest.TestCase):
    def check(self, text, outcome, **variables):
        made = plain(**variables)
        self.assertEqual(made.evaluate(expression(text), 0, 50), outcome, text)
        return made

    def test_values(self):
        self.check("5", ("value", ("int", 5)))
        self.check("a", ("value", ONE), a=ONE)
        self.check("-a", ("value", ("int", -1)), a=ONE)
        self.check("not a", ("value", ("bool", False)), a=ONE)
        self.check("a // 2", ("value", ("int", 0)), a=ONE)
        self.check("a and 2", ("value", TWO), a=ONE)
        self.check("0 and b", ("value", ("int", 0)))
        self.check("1 or b", ("value", ONE))
        self.check("2 if a else b", ("value", TWO), a=ONE)
        self.check("1 < 2 < 3", ("value", YES))
        self.check("1 > 2 > b", ("value", ("bool", False)))
        self.check("'abc'[1]", ("value", ("text", "b")))
        self.check("'abc'[1:]", ("value", ("text", "bc")))
        self.check("len('ab')", ("value", TWO))
        self.check("range(b=1)", ("raise", ("ref", 18)))

    def test_new_objects(self):
        for text, item in (("()", ("tuple", ())), ("[1, 2]", ("list", (ONE, TWO))),
                           ("{1: 2, True: 3}", ("dict", ((ONE, THREE),)))):
            made = self.check(text, ("value", ("ref", 17)))
            self.assertEqual(made.heap[17], item)

    def test_what_is_raised(self):
        made = self.check("1 // 0", ("raise", ("ref", 18)))
        self.assertEqual(made.heap[17:], [
            ("tuple", (("text", "division by zero"),)), ("inst", 3, (("args", ("ref", 17)),))])
        made = self.check("b + 1", ("raise", ("ref", 18)))
        self.assertEqual(made.heap[17], ("tuple", (("text", "not bound: b"),)))
        made = self.check("{[]: b}", ("raise", ("ref", 19)))
        self.assertEqual(made.heap[18], ("tuple", (("text", "not bound: b"),)))
        made = self.check("{[]: 1}", ("raise", ("ref", 19)))
        self.assertEqual(made.heap[18], ("tuple", (("text", "not a key: list"),)))

    def test_asking(self):
        self.check("1 + ask(2, 3)", ("ask", "ask", (TWO, THREE)))

    def test_raises_end_everything(self):
        for text in ("x + ask()", "ask(x)", "(x, ask())", "[x][ask()]", "x or ask()", "{x: ask()}", "x < ask()",
                     "ask() if x else ask()", "len(x, k=ask())"):
            made = plain()
            self.assertEqual(made.evaluate(expression(text), 0, 50), ("raise", ("ref", 18)), text)


class Statements(unittest.TestCase):
    def check(self, text, outcome, **variables):
        made = plain(**variables)
        self.assertEqual(made.execute(parse(text), 0, 50), outcome, text)
        return made

    def test_outcomes(self):
        self.check("", DONE)
        self.check("pass\nbreak\npass\n", ("break",))
        self.check("continue\n", ("continue",))
        self.check("return 5\n", ("return", ("int", 5)))
        self.check("return\n", ("return", NONE))
        self.check("raise\n", ("raise", ("ref", 18)))
        self.check("raise a\n", ("raise", ("ref", 18)), a=("int", 5))
        self.check("if 1:\n    break\n", ("break",))
        self.check("if 0:\n    break\nelse:\n    continue\n", ("continue",))
        self.check("while 1:\n    break\n", DONE)
        self.check("while 1:\n    return 2\n", ("return", TWO))
        self.check("for k in (1, 2):\n    break\n", DONE)
        self.check("for k in (1, 2):\n    return k\n", ("return", ONE))
        self.check("try:\n    return 1\nfinally:\n    break\n", ("break",))
        self.check("try:\n    break\nfinally:\n    pass\n", ("break",))
        self.check("try:\n    x\nexcept:\n    return 1\n", ("return", ONE))
        self.check("ask()\n", ("ask", "ask", ()))

    def test_what_is_raised(self):
        for text, n, words in (
                ("raise\n", 13, "nothing to raise again"), ("raise 5\n", 10, "not an exception"),
                ("class K(5):\n    pass\n", 10, "not a class"), ("a, b = 5\n", 10, "not iterable"),
                ("a, b = 'abc'\n", 11, "wrong number of values"), ("del x\n", 8, "not bound: x"),
                ("for k in 5:\n    pass\n", 10, "int cannot be iterated"), ("x += 1\n", 8, "not bound: x")):
            made = self.check(text, ("raise", ("ref", 18)))
            self.assertEqual(made.heap[17:], [
                ("tuple", (("text", words),)), ("inst", n, (("args", ("ref", 17)),))])

    def test_handling(self):
        made = plain()
        made.handling = [("ref", 3), ("ref", 4)]
        self.assertEqual(made.execute(parse("raise\n"), 0, 50), ("raise", ("ref", 4)))
        made.execute(parse("try:\n    x\nexcept:\n    pass\n"), 0, 50)
        self.assertEqual(made.handling, [("ref", 3), ("ref", 4)])
        made.execute(compile_text("def f():\n    raise\n"), 0, 50)
        outcome = made.evaluate(expression("f()"), 0, 50)
        self.assertEqual(made.heap[outcome[1][1]][1], 13)
        self.assertEqual((made.handling, made.active), ([("ref", 3), ("ref", 4)], 0))

    def test_break_in_the_class_of_a_block(self):
        # Any outcome of the block of a class is that of the statement: no class is made.
        outcome, heap, _, _ = run("class K:\n    x\n")
        self.assertEqual(heap[outcome[1][1]][1], 8)
        self.assertNotIn("K", dict(heap[0][1]))


class Stores(unittest.TestCase):
    def test_targets(self):
        made = plain(a=("ref", 17))
        made.heap.append(("list", ints(7, 8)))
        self.assertEqual(made.store(name("b"), ONE, 0, 50), DONE)
        self.assertEqual(variable(made.heap, "b"), ONE)
        self.assertEqual(made.store(("item", name("a"), num(1)), TWO, 0, 50), DONE)
        self.assertEqual(made.heap[17], ("list", ints(7, 2)))
        target = ("tuple", (name("c"), ("item", name("a"), num(0))))
        self.assertEqual(made.store(target, ("text", "xy"), 0, 50), DONE)
        self.assertEqual(variable(made.heap, "c"), ("text", "x"))
        self.assertEqual(made.heap[17], ("list", (("text", "y"), TWO)))
        self.assertEqual(made.store(("tuple", (target, target)), ONE, 0, 50), ("raise", ("ref", 19)))
        self.assertEqual(made.store(("attr", name("a"), "x"), ONE, 0, 50), ("raise", ("ref", 21)))
        self.assertEqual(made.heap[20], ("tuple", (("text", "list has no attribute x"),)))

    def test_an_ask(self):
        call = ("call", name("ask"), (), ())
        self.assertEqual(plain().store(("item", call, num(1)), ONE, 0, 50), ("ask", "ask", ()))


class Calls(unittest.TestCase):
    def test_apply(self):
        made = plain()
        made.execute(compile_text("def f(a, b=2):\n    return a + b\ndef g():\n    pass\n"), 0, 50)
        f, g = variable(made.heap, "f"), variable(made.heap, "g")
        self.assertEqual(made.apply(f, (ONE,), (), 50), ("value", THREE))
        self.assertEqual(made.apply(f, (), (("b", ONE), ("a", ONE)), 50), ("value", TWO))
        self.assertEqual(made.apply(g, (), (), 50), ("value", NONE))
        self.assertEqual(made.apply(f, (), (), 50)[0], "raise")
        self.assertEqual(made.apply(("built", "print"), (ONE,), (), 50), ("value", NONE))
        self.assertEqual(made.out, "1\n")

    def test_sixty_calls(self):
        rows = "def f(n):\n    if n == 1:\n        return 1\n    return f(n - 1)\n"
        made = plain()
        made.execute(compile_text(rows), 0, 50)
        f = variable(made.heap, "f")
        made.active = 59
        self.assertEqual(made.apply(f, (ONE,), (), 50), ("value", ONE))
        outcome = made.apply(f, (TWO,), (), 50)
        self.assertEqual(outcome, ("raise", ("ref", len(made.heap) - 1)))
        self.assertEqual(made.heap[-2:], [
            ("tuple", (("text", "too many calls"),)), ("inst", 14, (("args", ("ref", len(made.heap) - 2)),))])
        self.assertEqual(made.active, 59)

    def test_replies(self):
        text = "print(ask(1))\ntry:\n    ask(2)\nexcept HostError as e:\n    print(e.args)\nprint(ask(3))\n"
        replies = (("value", ("text", "yes")), ("raise", "no"), ("value", NONE), ("value", YES))
        outcome, _, out, used = run(text, ("ask",), replies)
        self.assertEqual((outcome, out, used), (DONE, "yes\n('no',)\nNone\n", 3))
        outcome, _, out, used = run(text, ("ask",), replies[:2])
        self.assertEqual((outcome, out, used), (("ask", "ask", (THREE,)), "yes\n('no',)\n", 2))

    def test_refusals_of_the_host_take_no_reply(self):
        for call, words in (("ask(len)", "argument cannot go out"), ("ask(k=1)", "ask() takes no named arguments")):
            outcome, heap, _, used = run(call + "\n", ("ask",), (("value", ONE),))
            self.assertEqual((outcome[0], used), ("raise", 0))
            self.assertEqual(heap[-2], ("tuple", (("text", words),)))

    def test_op_init(self):
        outcome, heap, _, _ = run("class K:\n    def op_init(self):\n        return 1\nK()\n")
        self.assertEqual(outcome[0], "raise")
        self.assertEqual(heap[-2], ("tuple", (("text", "op_init() must give None"),)))


if __name__ == "__main__":
    unittest.main()
