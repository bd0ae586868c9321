"""Whole programs by the machine: leaving blocks, generators, calls, own methods, what is refused first."""

import unittest

from tests.steps import Programs, run_steps, told


class Leaving(Programs, unittest.TestCase):
    """Finally blocks behind return, break, continue and raise (m4)."""

    def test_return(self):
        self.gives(
            "def f():\n    try:\n        return 1\n    finally:\n        print('last')\nprint(f())\n", "last", "1")
        self.gives(
            "def f():\n    try:\n        return 1\n    finally:\n        return 2\nprint(f())\n", "2")
        self.gives(
            "def f():\n    for k in range(9):\n        try:\n            return k\n        finally:\n"
            "            break\n    return 'behind'\nprint(f())\n", "behind")
        self.gives(
            "def f():\n    try:\n        return 1\n    finally:\n        raise KeyError('k')\nf()\n",
            ends="KeyError: 'k'")
        self.gives("def f():\n    x = 1\n    try:\n        return x\n    finally:\n        x = 2\nprint(f())\n", "1")

    def test_break_and_continue(self):
        self.gives(
            "for k in range(4):\n    try:\n        if k == 1:\n            continue\n        if k == 3:\n"
            "            break\n        print('in', k)\n    finally:\n        print('last', k)\n",
            "in 0", "last 0", "last 1", "in 2", "last 2", "last 3")
        self.gives(
            "k = 0\nwhile k < 4:\n    k += 1\n    try:\n        if k == 2:\n            break\n    finally:\n"
            "        continue\n    print('no')\nprint(k)\n", "4")

    def test_raise(self):
        self.gives(
            "try:\n    try:\n        1 // 0\n    finally:\n        print('last')\nexcept ArithmeticError as e:\n"
            "    print(e.args)\n", "last", "('division by zero',)")
        self.gives("try:\n    1 // 0\nfinally:\n    x\n", ends="NameError: 'not bound: x'")
        self.gives(
            "def f():\n    try:\n        1 // 0\n    except KeyError:\n        return 1\n    finally:\n"
            "        return 2\nprint(f())\n", "2")
        self.gives(
            "try:\n    try:\n        1 // 0\n    except ZeroDivisionError:\n        raise KeyError(1)\n"
            "    except KeyError:\n        print('no')\n    finally:\n        print('last')\n"
            "except KeyError as e:\n    print('yes', e.args)\n", "last", "yes (1,)")

    def test_finally_behind_a_handler(self):
        self.gives(
            "def f():\n    try:\n        1 // 0\n    except ZeroDivisionError:\n        return 'handled'\n"
            "    finally:\n        print('last')\nprint(f())\n", "last", "handled")
        self.gives("try:\n    pass\nfinally:\n    print('last')\n", "last")

    def test_several(self):
        self.gives(
            "def f():\n    try:\n        try:\n            return 1\n        finally:\n            print('a')\n"
            "    finally:\n        print('b')\nf()\n", "a", "b")

    def test_raising_again(self):
        self.gives(
            "try:\n    try:\n        1 // 0\n    except ZeroDivisionError:\n        try:\n            x\n"
            "        except NameError:\n            pass\n        raise\nexcept ArithmeticError as e:\n"
            "    print(e.args)\n", "('division by zero',)")
        self.gives(
            "def f():\n    raise\ntry:\n    1 // 0\nexcept ZeroDivisionError:\n    f()\n",
            ends="RuntimeError: 'nothing to raise again'")
        self.gives(
            "try:\n    1 // 0\nexcept ZeroDivisionError:\n    class K:\n        raise\n",
            ends="ZeroDivisionError: 'division by zero'")
        self.gives(
            "try:\n    try:\n        1 // 0\n    except ZeroDivisionError:\n        pass\n    finally:\n        raise\n"
            "except RuntimeError as e:\n    print(e.args)\n", "('nothing to raise again',)")

    def test_handlers_by_the_line_of_the_class(self):
        text = "try:\n    raise {}\nexcept {} as e:\n    print('yes')\n"
        for raised, caught in (("KeyError", "LookupError"), ("RecursionError(1)", "RuntimeError"),
                               ("HostError", "Exception"), ("ZeroDivisionError", "ArithmeticError")):
            self.gives(text.format(raised, caught), "yes")
        self.gives(text.format("LookupError()", "KeyError"), ends="LookupError: ")
        self.gives(text.format("5", "KeyError"), ends="TypeError: 'not an exception'")

    def test_the_name_of_a_handler_stays(self):
        self.gives("try:\n    x\nexcept NameError as e:\n    pass\nprint(e.args)\n", "('not bound: x',)")


class Generators(Programs, unittest.TestCase):
    GEN = (
        "def gen(n):\n    try:\n        for k in range(n):\n            got = yield k\n            if got is not None:\n"
        "                print('got', got)\n    except Exception as e:\n        print('caught', e.args)\n"
        "    finally:\n        print('last')\n")

    def test_iterating(self):
        self.gives(self.GEN + "for k in gen(2):\n    print(k)\n", "0", "1", "last")
        self.gives(self.GEN + "print(list(gen(3)), tuple(gen(0)))\n", "last", "last", "[0, 1, 2] ()")
        self.gives(
            self.GEN + "g = gen(1)\nprint(next(g), next(g, 'no'), next(g, 'no'), iter(g) is g)\n",
            "last", "0 no no True")

    def test_nothing_is_done_at_the_call(self):
        self.gives("def gen():\n    print('begins')\n    yield 1\ng = gen()\nprint('made')\nnext(g)\n",
                   "made", "begins")

    def test_send(self):
        self.gives(
            self.GEN + "g = gen(3)\nprint(g.send(None))\nprint(g.send('a'))\nprint(next(g))\n",
            "0", "got a", "1", "2")
        self.gives(self.GEN + "gen(3).send(1)\n", ends="TypeError: 'generator has not begun'")
        self.gives("def gen():\n    a, b = yield\n    print(a, b)\n    yield\ng = gen()\nnext(g)\ng.send((1, 2))\n",
                   "1 2")

    def test_closing_is_a_return_at_the_yield(self):
        # The finally block is executed, no handler takes it.
        self.gives(self.GEN + "g = gen(3)\nnext(g)\nprint(g.close())\nprint(next(g, 'over'))\n",
                   "last", "None", "over")
        self.gives(self.GEN + "g = gen(3)\ng.close()\nprint(list(g))\ng.close()\n", "[]")
        self.gives(self.GEN + "g = gen(1)\nlist(g)\nprint(g.close())\n", "last", "None")

    def test_going_on_after_close(self):
        self.gives(
            "def gen():\n    try:\n        yield 1\n    finally:\n        yield 2\ng = gen()\nnext(g)\ntry:\n"
            "    g.close()\nexcept RuntimeError as e:\n    print(e.args)\nprint(next(g, 'over'))\n",
            "('generator went on after close',)", "over")
        self.gives(
            "def gen():\n    while True:\n        try:\n            yield 1\n        finally:\n            break\n"
            "g = gen()\nnext(g)\nprint(g.close())\n", "None")

    def test_a_raise_while_closing(self):
        self.gives(
            "def gen():\n    try:\n        yield 1\n    finally:\n        raise KeyError('k')\ng = gen()\nnext(g)\n"
            "try:\n    g.close()\nexcept KeyError as e:\n    print(e.args)\nprint(list(g))\n", "('k',)", "[]")

    def test_stop_iteration_from_within(self):
        rows = "    raise StopIteration(1)\n", "    next(iter(()))\n", "    raise StopIteration\n"
        for row in rows:
            self.gives(
                "def gen():\n    yield 1\n" + row + "g = gen()\nprint(next(g))\ntry:\n    next(g)\n"
                "except RuntimeError as e:\n    print(e.args)\nprint(next(g, 'over'))\n",
                "1", "('generator raised StopIteration',)", "over")
        self.gives(
            "class Stop(StopIteration):\n    pass\ndef gen():\n    yield 1\n    raise Stop()\nlist(gen())\n",
            ends="RuntimeError: 'generator raised StopIteration'")

    def test_a_return_is_the_end(self):
        self.gives(
            "def gen():\n    yield 1\n    return 5\ng = gen()\nnext(g)\ntry:\n    next(g)\nexcept StopIteration as e:\n"
            "    print(e.args)\n", "('',)")

    def test_running(self):
        self.gives(
            "def gen():\n    yield next(g)\ng = gen()\ntry:\n    next(g)\nexcept ValueError as e:\n    print(e.args)\n"
            "print(next(g, 'over'))\n", "('generator is running',)", "over")
        self.gives("def gen():\n    g.close()\n    yield\ng = gen()\nnext(g)\n",
                   ends="ValueError: 'generator is running'")

    def test_a_raise_goes_on(self):
        self.gives("def gen():\n    yield 1\n    x\nfor k in gen():\n    print(k)\n", "1",
                   ends="NameError: 'not bound: x'")

    def test_within_one_another(self):
        self.gives(
            "def inner(n):\n    for k in range(n):\n        yield k\ndef outer(n):\n    for k in range(n):\n"
            "        for j in inner(k):\n            yield k * 10 + j\nprint(list(outer(4)))\n",
            "[10, 20, 21, 30, 31, 32]")

    def test_methods_with_yield(self):
        self.gives(
            "class Box:\n    def op_iter(self):\n        yield 1\n        yield 2\nprint(list(Box()))\n"
            "a, b = tuple(Box())\nfor k in Box():\n    print(k, a, b)\n", "[1, 2]", "1 1 2", "2 1 2")

    def test_where_it_stands(self):
        text = "def gen():\n    yield 1\n\n    yield 2\ng = gen()\nnext(g)\nnext(g)\n"
        machine, _ = run_steps(text)
        self.assertEqual((machine.here, machine.line, machine.active), ("module", 7, 0))


class Active(Programs, unittest.TestCase):
    """60 active calls, and one more (k6, k16)."""

    def test_functions(self):
        rows = "def f(n):\n    if n == 1:\n        return 1\n    return 1 + f(n - 1)\n"
        self.gives(rows + "print(f(60))\n", "60")
        self.gives(rows + "print(f(61))\n", ends="RecursionError: 'too many calls'")
        self.gives(
            rows + "try:\n    f(61)\nexcept RecursionError:\n    print(f(60))\n", "60")

    def test_generators(self):
        rows = "def g(n):\n    if n > 1:\n        for k in g(n - 1):\n            yield k\n    yield n\n"
        self.gives(rows + "print(len(list(g(60))))\n", "60")
        self.gives(rows + "print(len(list(g(61))))\n", ends="RecursionError: 'too many calls'")

    def test_making_a_generator_is_no_active_call(self):
        self.gives(
            "def g():\n    yield 1\ndef f(n):\n    if n == 1:\n        a = g()\n        a.close()\n        return a\n"
            "    return f(n - 1)\nprint(f(60))\n", "<generator g>")

    def test_methods_and_op_init(self):
        self.gives(
            "class Box:\n    def op_init(self, n):\n        self.n = 0\n        if n > 1:\n            Box(n - 1)\n"
            "Box(60)\ntry:\n    Box(61)\nexcept RecursionError as e:\n    print(e.args)\n", "('too many calls',)")

    def test_binding_comes_first(self):
        rows = "def g(a):\n    pass\ndef f(n):\n    if n == 1:\n        {}\n    else:\n        f(n - 1)\nf(60)\n"
        self.gives(rows.format("g()"), ends="TypeError: 'g() needs a'")
        self.gives(rows.format("g(1)"), ends="RecursionError: 'too many calls'")

    def test_nothing_is_made(self):
        machine, _ = run_steps("def f():\n    f()\nf()\n")
        # 61 scopes would have been made: one for each call but the last; then the exception.
        scopes = [item for item in machine.heap if item[0] == "scope"]
        self.assertEqual(len(scopes), 61)
        self.assertEqual((machine.active, machine.here), (0, "module"))

    def test_a_try_in_each_call(self):
        self.gives(
            "def f():\n    try:\n        f()\n    finally:\n        n.append(1)\nn = []\ntry:\n    f()\n"
            "except RecursionError:\n    print(len(n))\n", "60")


ALL = (
    "class All:\n    def op_eq(self, o):\n        print('eq')\n        return True\n"
    "    def op_lt(self, o):\n        print('lt')\n        return True\n"
    "    def op_in(self, o):\n        print('in')\n        return True\n"
    "    def op_len(self):\n        print('len')\n        return 0\n"
    "    def op_str(self):\n        print('str')\n        return 's'\n"
    "    def op_repr(self):\n        print('repr')\n        return 'r'\n"
    "    def op_item(self, k):\n        print('item')\n        return 1\n"
    "    def op_iter(self):\n        print('iter')\n        return iter((1, 2))\n"
    "    def op_next(self):\n        print('next')\n        return 1\n"
    "    def op_add(self, o):\n        print('add')\n        return 1\n"
    "    def op_call(self):\n        print('call')\n        return 1\n"
    "    def op_hash(self):\n        print('hash')\n        return 1\n"
    "a = All()\nb = All()\n")


class Methods(Programs, unittest.TestCase):
    def test_asked(self):
        self.gives(ALL + "print(a == b, a == 1, 1 == a, a != b, 1 != a)\n", "eq", "eq", "eq", "eq", "eq",
                   "True True True False False")
        self.gives(ALL + "print(a < b, a < 1, 1 in a, a in b, 1 not in a)\n", "lt", "lt", "in", "in", "in",
                   "True True True True False")
        self.gives(ALL + "print(len(a), str(a), repr(a))\n", "len", "str", "repr", "0 s r")
        self.gives(ALL + "print(a, b)\n", "str", "str", "s s")
        self.gives(ALL + "print(a[1], a + 1, a())\n", "item", "add", "call", "1 1 1")
        self.gives(ALL + "print(next(a), list(a), tuple(b))\n", "next", "iter", "iter", "1 [1, 2] (1, 2)")
        self.gives(ALL + "for k in a:\n    print(k)\n", "iter", "1", "2")

    def test_not_asked_within_other_things(self):
        self.gives(ALL + "print((a,) == (b,), [a] == [a], {1: a} == {1: b}, (a,) != (b,))\n",
                   "False True False True")
        self.gives(ALL + "print([a], (a,), {1: a}, str([a]), repr((a,)))\n",
                   "[<All object>] (<All object>,) {1: <All object>} [<All object>] (<All object>,)")
        self.gives(ALL + "print(a in [a], a in [b], a in (1, b), 1 in [a])\n", "True False False False")
        self.gives(ALL + "print([a, b].index(b), [a].count(b), (a, b).index(b), [a].count(a))\n", "1 0 1 1")
        self.gives(ALL + "c = [a, b]\nc.remove(b)\nprint(len(c))\n", "1")
        self.gives(ALL + "print((a, 1) < (a, 2), [a] < [a, a])\n", "True True")

    def test_not_asked_at_all(self):
        self.gives(ALL + "print(a is b, a is a, a is not b, not a, 1 if a else 2, a and 3, a or 3)\n", "str",
                   "False True True False 1 3 s")
        self.gives(ALL + "while a:\n    print('true')\n    break\n", "true")
        self.gives(ALL + "{a: 1}\n", ends="TypeError: 'not a key: All'")
        self.gives(ALL + "{}[a]\n", ends="TypeError: 'not a key: All'")
        self.gives(ALL + "a in {}\n", ends="TypeError: 'not a key: All'")
        self.gives(ALL + "a > 1\n", ends="TypeError: 'unsupported operands for >: All and int'")
        self.gives(ALL + "1 + a\n", ends="TypeError: 'unsupported operands for +: int and All'")
        self.gives(ALL + "1 < a\n", ends="TypeError: 'unsupported operands for <: int and All'")
        self.gives(ALL + "a[1:2]\n", ends="TypeError: 'no slices: All'")
        self.gives(ALL + "x, y = a\n", ends="TypeError: 'not iterable'")
        self.gives(ALL + "[].extend(a)\n", ends="TypeError: 'list.extend() cannot take All'")
        self.gives(ALL + "dict(a)\n", ends="TypeError: 'dict() cannot take All'")
        self.gives(ALL + "int(a)\n", ends="TypeError: 'int() cannot take All'")

    def test_of_the_class_alone(self):
        self.gives(
            "class K:\n    pass\ndef f(o):\n    return 1\nk = K()\nk.op_add = f\nk.op_len = f\ntry:\n    k + 1\n"
            "except TypeError as e:\n    print(e.args[0])\nlen(k)\n",
            "unsupported operands for +: K and int", ends="TypeError: 'no length: K'")

    def test_only_functions_of_the_program(self):
        self.gives("class K:\n    op_len = 5\nlen(K())\n", ends="TypeError: 'no length: K'")
        self.gives("class K:\n    op_len = len\nlen(K())\n", ends="TypeError: 'no length: K'")
        self.gives("class K:\n    op_call = KeyError\nK()()\n", ends="TypeError: 'K cannot be called'")
        self.gives("class K:\n    op_init = len\nprint(K())\nK(1)\n", "<K object>",
                   ends="TypeError: 'K() takes no arguments'")

    def test_a_member_that_is_no_function_hides_that_of_the_base(self):
        self.gives(
            "class K:\n    def op_len(self):\n        return 1\nclass L(K):\n    pass\nclass M(K):\n    op_len = 5\n"
            "print(len(L()))\nlen(M())\n", "1", ends="TypeError: 'no length: M'")

    def test_equality_asks_the_other_one(self):
        self.gives(
            "class K:\n    pass\nclass L:\n    def op_eq(self, o):\n        print('L', o)\n        return False\n"
            "print(K() == L(), 5 == L(), 5 != L(), K() == K())\n", "L <K object>", "L 5", "L 5",
            "False False True False")

    def test_what_they_must_give(self):
        cases = (
            ("eq(self, o)", "1", "k == k", "method must give a boolean"),
            ("eq(self, o)", "None", "k != k", "method must give a boolean"),
            ("le(self, o)", "1", "k <= 1", "method must give a boolean"),
            ("in(self, o)", "0", "1 not in k", "method must give a boolean"),
            ("len(self)", "True", "len(k)", "method must give a count"),
            ("len(self)", "0 - 1", "len(k)", "method must give a count"),
            ("str(self)", "1", "str(k)", "method must give a text"),
            ("repr(self)", "None", "repr(k)", "method must give a text"),
            ("repr(self)", "None", "print(1, k)", "method must give a text"),
            ("iter(self)", "[1]", "iter(k)", "method must give an iterator"),
            ("iter(self)", "self", "for x in k:\n    pass", "method must give an iterator"),
            ("init(self)", "1", "K()", "op_init() must give None"))
        for head, result, row, words in cases:
            text = f"class K:\n    def op_{head}:\n        return {result}\n"
            if "init" not in head:
                text += "k = K()\n"
            self.gives(text + row + "\n", ends=f"TypeError: '{words}'")

    def test_setting_and_deleting_items_forget_the_value(self):
        self.gives(
            "class K:\n    def op_put(self, k, v):\n        print('put', k, v)\n        return 5\n"
            "    def op_drop(self, k):\n        print('drop', k)\n        return 6\nk = K()\nk[1] = 2\ndel k[3]\n"
            "k['a'], x = 7, 8\nfor k[0] in (1, 2):\n    print('in')\n",
            "put 1 2", "drop 3", "put a 7", "put 0 1", "in", "put 0 2", "in")


class Refusals(Programs, unittest.TestCase):
    """Which one comes first where two are due."""

    def test_operations(self):
        self.gives("[1][None]\n", ends="TypeError: 'index is no integer: NoneType'")
        self.gives("[][None]\n", ends="TypeError: 'index is no integer: NoneType'")
        self.gives("(1)['a']\n", ends="TypeError: 'no items: int'")
        self.gives("{}[[]]\n", ends="TypeError: 'not a key: list'")
        self.gives("{}[5]\n", ends="KeyError: '5'")
        self.gives("print(len())\n", ends="TypeError: 'len() takes a different number of arguments'")
        self.gives("len(1, x=2)\n", ends="TypeError: 'len() takes no named arguments'")
        self.gives("range('a', None)\n", ends="TypeError: 'range() cannot take str'")
        self.gives("ask(len, k=1)\n", ends="TypeError: 'ask() takes no named arguments'", hosts=("ask",))

    def test_calls_of_classes(self):
        self.gives("class K:\n    pass\nK(1, a=2)\n", ends="TypeError: 'K() takes no arguments'")
        self.gives("KeyError(1, a=2)\n", ends="TypeError: 'KeyError() takes no named arguments'")

    def test_unpacking(self):
        self.gives("a, b = 1\n", ends="TypeError: 'not iterable'")
        self.gives("a, b = {1: 2, 3: 4}\n", ends="TypeError: 'not iterable'")
        self.gives("a, b = (1,)\n", ends="ValueError: 'wrong number of values'")
        self.gives("a, b = range(2 * 2, 2 * 3)\nprint(a, b)\n", "4 5")

    def test_the_host(self):
        text = "try:\n    ask(1)\nexcept HostError as e:\n    print(e.args)\n"
        self.gives(text, "('no',)", hosts=("ask",), replies=(Exception("no"),))
        self.gives("print(ask(1), ask(2))\n", "[1] None", hosts=("ask",), replies=([1], None))
        self.gives("x = ask(1)\nprint(2)\n", hosts=("ask",), ends="ask")

    def test_iterating(self):
        self.gives("for k in 5:\n    pass\n", ends="TypeError: 'int cannot be iterated'")
        self.gives("next([])\n", ends="TypeError: 'list is no iterator'")
        self.gives("d = {1: 2}\nfor k in d:\n    d[k + 1] = 3\n", ends="RuntimeError: 'dict changed'")
        self.gives("a = [1]\nfor k in a:\n    if k < 5:\n        a.append(k + 1)\nprint(a)\n", "[1, 2, 3, 4, 5]")
        self.gives("class K:\n    pass\nlist(K())\n", ends="TypeError: 'K cannot be iterated'")
        self.gives("list(5)\n", ends="TypeError: 'list() cannot take int'")


class Names(Programs, unittest.TestCase):
    def test_scopes(self):
        self.gives("x = 1\ndef f():\n    print(x)\n    x = 2\nf()\n", ends="NameError: 'not bound: x'")
        self.gives("x = 1\ndef f():\n    global x\n    x = 2\nf()\nprint(x)\n", "2")
        self.gives(
            "def f():\n    n = 0\n    def g():\n        nonlocal n\n        n += 1\n        return n\n    return g\n"
            "g = f()\ng()\nprint(g())\n", "2")
        self.gives("x = 1\nclass K:\n    x = 2\n    def f(self):\n        return x\nprint(K().f(), K.x)\n", "1 2")
        self.gives("x = 1\nclass K:\n    x = x + 1\n    y = x\nprint(K.x, K.y, x)\n", "2 2 1")
        self.gives("def f():\n    x = 1\n    del x\n    x\nf()\n", ends="NameError: 'not bound: x'")
        self.gives("print = 5\nprint(1)\n", ends="TypeError: 'int cannot be called'")
        self.gives("for k in range(3):\n    pass\nprint(k)\n", "2")

    def test_attributes(self):
        self.gives(
            "class K:\n    x = 1\n    def f(self):\n        return 2\nk = K()\nk.f = 3\nprint(k.f, K().f(), K.f(k))\n",
            "3 2 2")
        self.gives("class K:\n    pass\nK.y = 5\nprint(K().y)\n", "5")
        self.gives("KeyError.x = 1\n", ends="AttributeError: 'class KeyError cannot be changed'")
        self.gives("(1).x = 2\n", ends="AttributeError: 'int has no attribute x'")
        self.gives("[].x\n", ends="AttributeError: 'list has no attribute x'")

    def test_defaults_are_made_once(self):
        self.gives("def f(a, b=[]):\n    b.append(a)\n    return b\nf(1)\nprint(f(2))\n", "[1, 2]")


class Output(Programs, unittest.TestCase):
    def test_the_whole_output(self):
        text = "a = 'x' * 999\nfor k in range(100):\n    print(a)\nprint()\n"
        machine, _ = run_steps(text)
        self.assertEqual((len(machine.out), told(machine)), (100000, "MemoryError: 'too large'"))
        machine, _ = run_steps(text.replace("print()", "print"))
        self.assertEqual((len(machine.out), told(machine)), (100000, "done"))

    def test_a_line(self):
        self.gives("print('x' * 1000)\n", "x" * 1000)
        self.gives("print('x' * 999, '')\n", "x" * 999 + " ")
        self.gives("print('x' * 1000, '')\n", ends="MemoryError: 'too large'")
        self.gives("print(1, 'x' * 998, 1)\n", ends="MemoryError: 'too large'")
        self.gives("print()\n", "")


if __name__ == "__main__":
    unittest.main()
