"""In which order the parts of expressions and statements are evaluated (m3 to m5, e5 to e7),
with functions of the host as witnesses."""

import unittest

from tests.steps import Programs


class Expressions(Programs, unittest.TestCase):
    def test_operations(self):
        self.asks("w1() + w2() * w3()\n", "w1", "w2", "w3")
        self.asks("w1() // 0 + w2()\n", "w1", ends="ZeroDivisionError: 'division by zero'")
        self.asks("None + w2()\n", "w2", ends="TypeError: 'unsupported operands for +: NoneType and int'")
        self.asks("-(w1() + w2())\n", "w1", "w2")
        self.asks("not w1() + w2()\n", "w1", "w2")

    def test_and_or_choice(self):
        self.asks("w1() and w2()\nw0() and w2()\n", "w1", "w2", "w0")
        self.asks("w1() or w2()\nw0() or w2()\n", "w1", "w0", "w2")
        self.asks("w2() if w1() else w3()\nw2() if w0() else w3()\n", "w1", "w2", "w0", "w3")
        self.asks("w1() and w0() and w2()\n", "w1", "w0")
        self.asks("w0() or w0() or w2() or w3()\n", "w0", "w0", "w2")

    def test_comparisons(self):
        self.asks("w1() < w2() < w3()\n", "w1", "w2", "w3")
        self.asks("w1() > w2() < w3()\n", "w1", "w2")
        self.asks("w1() < w2() > w3() < w4()\n", "w1", "w2", "w3")
        self.asks("w1() in w2() in w3()\n", "w1", "w2", ends="TypeError: 'unsupported operands for in: int and int'")

    def test_displays(self):
        self.asks("(w1(), [w2(), w3()], w4())\n", "w1", "w2", "w3", "w4")
        self.asks("{w1(): w2(), w3(): w4()}\n", "w1", "w2", "w3", "w4")
        self.asks("{[]: w2(), w3(): w4()}\n", "w2", ends="TypeError: 'not a key: list'")

    def test_items_and_slices(self):
        self.asks("(w1(), 5)[w0()]\n", "w1", "w0")
        self.asks("(w1(), 5)[w0():w2()]\n", "w1", "w0", "w2")
        self.asks("w1()[w0():w2()]\n", "w1", "w0", "w2", ends="TypeError: 'no slices: int'")
        self.asks("w1()[w2()]\n", "w1", "w2", ends="TypeError: 'no items: int'")

    def test_calls(self):
        self.asks(
            "def f(a, b, c=0, d=0):\n    pass\n[f][w0()](w1(), w2(), d=w3(), c=w4())\n",
            "w0", "w1", "w2", "w3", "w4")
        self.asks("None(w1(), k=w2())\n", "w1", "w2", ends="TypeError: 'NoneType cannot be called'")
        self.asks("x(w1())\n", ends="NameError: 'not bound: x'")
        self.asks("def f():\n    pass\nf(w1(), w2(), k=w3())\n", "w1", "w2", "w3",
                  ends="TypeError: 'f() takes too many arguments'")


class Statements(Programs, unittest.TestCase):
    def test_set(self):
        self.asks("a = [0, 0, 0]\na[w1()] = w2()\n", "w2", "w1")
        self.asks("a = [0, 0, 0]\n[a][w0()][w1()] = w2()\n", "w2", "w0", "w1")
        self.asks("class K:\n    pass\nk = K()\n(k, w1())[w0()].x = w2()\n", "w2", "w1", "w0")
        self.asks("a = [0] * 9\na[w1()], a[w2()] = w3(), w4()\n", "w3", "w4", "w1", "w2")
        self.asks("a = [0] * 9\na[w1()], (a[w2()], a[w3()]) = 1, (w4(), 3)\n", "w4", "w1", "w2", "w3")
        self.asks("a = [0] * 9\na[w1()], a[w2()] = 1, 2, w3()\n", "w3",
                  ends="ValueError: 'wrong number of values'")
        self.asks("a = [0] * 9\na[w1()], (b, c), a[w2()] = 1, 2, w3()\n", "w3", "w1",
                  ends="TypeError: 'not iterable'")

    def test_change(self):
        self.asks("a = 1\na += w1()\n", "w1")
        self.asks("b += w1()\n", ends="NameError: 'not bound: b'")

    def test_drop(self):
        self.asks("a = [0, 0, 0]\ndel [a][w0()][w1()]\n", "w0", "w1")

    def test_values_are_taken_at_the_beginning(self):
        self.gives("a = [1, 2]\na[0], a[1], b = a[1], a[0], a\nprint(a, b)\n", "[2, 1] [2, 1]")
        self.gives("a = [0, 5]\na[0], a[1] = a\nprint(a)\n", "[0, 5]")
        self.gives("i = 0\na = [8, 9]\ni, a[i] = 1, 7\nprint(i, a)\n", "1 [8, 7]")
        self.gives("a = [1, 2, 3]\na[1], a, b = a\nprint(a, b)\n", "2 3")

    def test_def_and_class(self):
        self.asks("def f(a=w1(), b=w2()):\n    w3()\nf(b=w4())\nf()\n", "w1", "w2", "w4", "w3", "w3")
        self.asks("class K([KeyError][w0()]):\n    a = w1()\n    b = w2()\n", "w0", "w1", "w2")

    def test_loops(self):
        self.asks("for k in [w1(), w2()]:\n    w3()\n", "w1", "w2", "w3", "w3")
        self.asks("a = [0]\nfor a[w0()] in [w1(), 2]:\n    w3()\n", "w1", "w0", "w3", "w0", "w3")
        self.asks("k = 2\nwhile w1() < k:\n    k -= 1\n    w3()\n", "w1", "w3", "w1")

    def test_handlers(self):
        self.asks(
            "try:\n    w1()\n    x\nexcept (KeyError, w2())[0]:\n    w3()\nexcept [NameError][w0()]:\n    w4()\n"
            "except (w5(), KeyError)[1]:\n    w6()\nfinally:\n    w7()\n", "w1", "w2", "w0", "w4", "w7")
        self.asks("try:\n    w1()\nexcept w2():\n    w3()\n", "w1")
        self.asks("try:\n    x\nexcept w2():\n    w3()\nfinally:\n    w4()\n", "w2", "w4",
                  ends="TypeError: 'not a class'")

    def test_raise_and_return(self):
        self.asks("def f():\n    return w1() + w2()\nf()\n", "w1", "w2")
        self.asks("raise [KeyError][w0()](w1())\n", "w0", "w1", ends="KeyError: 1")


class Methods(Programs, unittest.TestCase):
    BOX = (
        "class Box:\n    def op_init(self, n):\n        self.n = n\n"
        "    def op_add(self, other):\n        return w3() + other\n"
        "    def op_eq(self, other):\n        return w4() == 4\n"
        "    def op_item(self, k):\n        return w5()\n"
        "    def op_put(self, k, v):\n        w6()\n"
        "    def op_drop(self, k):\n        w7()\n"
        "    def op_call(self, k):\n        return w8()\n"
        "    def op_repr(self):\n        return str(w9())\n")

    def asks_box(self, rows, *names, ends="done"):
        self.asks(self.BOX + rows, *names, ends=ends)

    def test_operands_first(self):
        self.asks_box("Box(w1()) + w2()\n", "w1", "w2", "w3")
        self.asks_box("Box(w1()) == w2()\n", "w1", "w2", "w4")
        self.asks_box("w1() == Box(w2())\n", "w1", "w2", "w4")
        self.asks_box("Box(w1()) == w2() == Box(w3())\n", "w1", "w2", "w4", "w3", "w4")
        self.asks_box("Box(w1())[w2()]\n", "w1", "w2", "w5")
        self.asks_box("Box(w1())[w2()] = w0()\n", "w0", "w1", "w2", "w6")
        self.asks_box("del Box(w1())[w2()]\n", "w1", "w2", "w7")
        self.asks_box("Box(w1())(w2())\n", "w1", "w2", "w8")

    def test_print(self):
        self.asks_box("print(w1(), Box(w2()), w3(), Box(w4()))\n", "w1", "w2", "w3", "w4", "w9", "w9")


if __name__ == "__main__":
    unittest.main()
