"""The machine and the plain meaning agree (e9), and both agree with Python where the languages do,
over programs drawn at random."""

import gc
import random
import re
import sys
import unittest
import unittest.mock
import warnings

from tests.agreement import Agreement
from tests.programs_at_random import Writer, as_python
from tests.steps import run_steps

REPLIES = (
    ("value", ("int", 1)), ("value", ("text", "ab")), ("raise", "no"), ("value", ("none",)), ("raise", ""),
    ("value", ("bool", False)), ("value", ("int", 2 ** 256 - 1)))


class AtRandom(Agreement, unittest.TestCase):
    def test_wild_programs(self):
        compared = 0
        for seed in range(400):
            chance = random.Random(seed)
            replies = tuple(chance.choice(REPLIES) for _ in range(chance.randint(0, 6)))
            compared += self.agree(Writer(seed, yields=False, wild=True).text(), ("ask",), replies)
        self.assertGreater(compared, 380)

    def test_tame_programs(self):
        compared = 0
        for seed in range(100):
            compared += self.agree(Writer(seed, yields=False).text())
        self.assertGreater(compared, 95)


class Written(Agreement, unittest.TestCase):
    """Programs for what random ones seldom come to."""

    def test_calls(self):
        rows = "def f(n):\n    if n == 1:\n        return 1\n    return f(n - 1)\n"
        self.assertFalse(self.agree(rows + "f(60)\n"))
        for text in (
                rows + "f(20)\n", "class K(KeyError):\n    def op_init(self, a, b=2):\n        self.c = a + b\nK(1).c\n"
                "raise K(1)\n", "class K(KeyError):\n    def op_init(self):\n        return 1\nraise K\n",
                "len()\n", "len(1, x=2)\n", "ask(len)\n", "ask(1, 2)\n", "x = ask\nx(a=1)\n", "print(ask)\nask([ask])\n",
                "f = [].append\nf(1)\nprint(f)\nf()\n", "a = iter([1, 2])\nprint(next(a), list(a), next(a, 5))\nnext(a)\n"):
            self.assertTrue(self.agree(text), text)

    def test_iterators(self):
        for text in (
                "d = {1: 2}\nfor k in d:\n    d[5] = 6\n", "a = [1]\nfor k in a:\n    if k < 9:\n        a.append(k + 1)\n",
                "it = iter({1: 2})\nx = [next(it)]\nfor k in it:\n    print(k)\n",
                "class K:\n    def op_next(self):\n        raise StopIteration(1)\nfor k in K():\n    print(1)\n"
                "print(list(K()), tuple(K()), next(K(), 2))\nnext(K())\n",
                "class K:\n    def op_iter(self):\n        return iter('abc')\nfor k in K():\n    raise StopIteration\n",
                "class K:\n    def op_iter(self):\n        return 'abc'\nlist(K())\n",
                "for x[0] in [1]:\n    pass\n", "x = []\nfor x[0] in [1]:\n    pass\n",
                "class K:\n    def op_put(self, k, v):\n        raise StopIteration(k, v)\nk = K()\nfor k[1] in (2,):\n    pass\n",
                "n = 0\nclass K:\n    def op_next(self):\n        global n\n        n += 1\n        return n\nlist(K())\n"):
            self.assertTrue(self.agree(text), text)

    def test_parts_that_raise(self):
        for text in (
                "def f(a=1, b=x):\n    pass\n", "class K(x):\n    pass\n", "while x:\n    pass\n", "if x:\n    pass\n",
                "for k in x:\n    pass\n", "def f():\n    return x\nf()\n", "raise x\n", "del x[1]\n", "a = [1]\ndel a[x]\n",
                "x.a = 1\n", "a = [1]\na[x] = 1\n", "x += 1\n", "a = 1\na += x\n", "raise KeyError(x)\n",
                "try:\n    1 // 0\nexcept x:\n    pass\n", "try:\n    pass\nfinally:\n    x\n", "next(5)\n", "x[1:2]\n",
                "(1)[x:]\n", "'a'[:x]\n", "-x\n", "not x\n", "x.a\n", "len(x)\n", "len(a=x)\n", "{1: x}\n", "{x: 1}\n",
                "class K:\n    def op_next(self):\n        raise KeyError(1)\nlist(K())\n",
                "class K:\n    def op_next(self):\n        raise KeyError(1)\nnext(K(), 2)\n",
                "class K:\n    def op_next(self):\n        raise KeyError(1)\nfor k in K():\n    pass\n",
                "class K:\n    def op_iter(self):\n        raise StopIteration\nlist(K())\n",
                "class K:\n    def op_iter(self):\n        raise StopIteration\nfor k in K():\n    pass\n"):
            self.assertTrue(self.agree(text), text)
            self.assertTrue(self.agree(re.sub(r"\bx\b(?! \+=)", "ask()", text)), text)

    def test_bounds(self):
        for text in (
                "a = 1\nwhile True:\n    a = a * 7\n", "a = 'x'\nwhile True:\n    a = a + a\n", "print('x' * 1000, 1)\n",
                "a = []\nwhile True:\n    a.append(a)\n", "while True:\n    print('x' * 999)\n",
                "d = {}\nwhile True:\n    d[len(d)] = d\n", "a = ()\nwhile True:\n    a = (a, a)\n    {a: 1}\n",
                "a = [1]\na.append(a)\nprint(a, a == a, a < a)\n"):
            self.assertTrue(self.agree(text, left=200000), text)

    def test_handling(self):
        for text in (
                "try:\n    x\nexcept NameError:\n    try:\n        y\n    except NameError:\n        pass\n    raise\n",
                "def f():\n    raise\ntry:\n    x\nexcept:\n    f()\n",
                "try:\n    x\nexcept:\n    pass\nfinally:\n    raise\n",
                "try:\n    try:\n        x\n    except:\n        1 // 0\n    finally:\n        raise\nexcept RuntimeError as e:\n"
                "    print(e.args)\n", "try:\n    x\nexcept NameError:\n    class K:\n        raise\n",
                "try:\n    x\nexcept 5:\n    pass\n", "try:\n    x\nexcept y:\n    pass\nexcept:\n    print(1)\n",
                "class K:\n    def op_eq(self, o):\n        raise\ntry:\n    x\nexcept:\n    K() == 1\n"):
            self.assertTrue(self.agree(text), text)

    def test_methods(self):
        for text in (
                "class K:\n    def op_init(self):\n        x\nK()\n", "class K:\n    def op_init(self):\n        ask()\nK()\n",
                "class K:\n    def op_call(self, a, b=2):\n        return (self, a, b)\nprint(K()(1)[1:], K()(1, b=3)[1:])\nK()()\n",
                "class K:\n    pass\nk = K()\nk.op_call = print\nk(1)\n",
                "class K:\n    def op_repr(self):\n        return 'k'\nprint(repr(K()), str(K()), K(), [K()], str(), repr(1))\n",
                "class K:\n    def op_str(self):\n        return 'k'\nprint(repr(K()), str(K()), K(), [K()])\n",
                "class K:\n    def op_len(self):\n        return 3\nprint(len(K()), not K(), K() and 1)\n",
                "class K:\n    def op_put(self, k, v):\n        print(k, v)\n        return 1\n    def op_drop(self, k):\n"
                "        x\nk = K()\nk[1], k[2] = 3, 4\ndel k[5]\n",
                "class K:\n    def op_neg(self):\n        return 1\n    def op_in(self, k):\n        return k == 1\n"
                "print(-K(), 1 in K(), 2 not in K(), 1 not in K())\nK() in 1\n",
                "class K:\n    def f(self, a):\n        return a\nf = K().f\nprint(f(1), f(a=2), K.f(1, 2))\nf(1, 2)\n"):
            self.assertTrue(self.agree(text), text)

    def test_names(self):
        for text in (
                "def f():\n    global x\n    x = 1\n    def g():\n        return x\n    return g\nprint(f()())\ndel x\nf()()\n",
                "def f():\n    x = 1\n    class K:\n        x = x\n    return K\nprint(f().x)\n",
                "class K:\n    x = 1\n    def f(self):\n        return x\nK().f()\n",
                "def f():\n    def g():\n        nonlocal n\n        n += 1\n    g()\n    n = 1\nf()\n"):
            self.assertTrue(self.agree(text), text)


class WithPython(unittest.TestCase):
    """What Python says of programs that mean the same there, generators included."""

    def by_python(self, text):
        out = []
        space = {"print": lambda *values: out.append(" ".join(map(str, values)))}
        with warnings.catch_warnings():
            warnings.simplefilter("ignore")
            code = compile(as_python(text), "program", "exec")
        exec(code, space)
        text = "".join(row + "\n" for row in out)
        # Python closes generators that are left, and writes of what they raise then.
        with unittest.mock.patch.object(sys, "unraisablehook", lambda told: None):
            space.clear()
            gc.collect()
        return re.sub(r"<generator object (\w+) at 0x\w+>", r"<generator \1>", text)

    def test_programs(self):
        for seed in range(300):
            text = Writer(seed).text()
            machine, _ = run_steps(text)
            self.assertEqual(machine.control, ("done",))
            self.assertEqual(machine.out, self.by_python(text), text)


if __name__ == "__main__":
    unittest.main()
