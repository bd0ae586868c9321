import unittest

from pyhold.core import BASES, BUILT, CHARACTERS, CLASSES, start_heap


class Characters(unittest.TestCase):
    def test_all_in_order(self):
        expected = "\n" + "".join(chr(k) for k in range(32, 127) if k != 37)
        self.assertEqual(CHARACTERS, expected)
        self.assertEqual(len(CHARACTERS), 95)


class Tables(unittest.TestCase):
    def test_classes(self):
        self.assertEqual(CLASSES, (
            "Exception", "ArithmeticError", "ZeroDivisionError", "OverflowError",
            "LookupError", "IndexError", "KeyError", "NameError", "AttributeError",
            "TypeError", "ValueError", "StopIteration", "RuntimeError",
            "RecursionError", "MemoryError", "HostError"))

    def test_bases(self):
        self.assertEqual(BASES, (-1, 1, 2, 2, 1, 5, 5, 1, 1, 1, 1, 1, 1, 13, 1, 1))

    def test_built(self):
        self.assertEqual(BUILT, (
            "print", "len", "range", "repr", "str", "int", "list", "tuple", "dict",
            "iter", "next", "isinstance", "abs"))


class StartHeap(unittest.TestCase):
    def test_without_hosts(self):
        heap = start_heap(())
        self.assertEqual(len(heap), 17)
        kind, variables, own, shared, around, of_class = heap[0]
        self.assertEqual((kind, own, shared, around), ("scope", (), (), -1))
        self.assertIs(of_class, False)
        self.assertEqual(len(variables), 29)
        self.assertEqual(variables[0], ("Exception", ("ref", 1)))
        self.assertEqual(variables[15], ("HostError", ("ref", 16)))
        self.assertEqual(variables[16], ("print", ("built", "print")))
        self.assertEqual(variables[28], ("abs", ("built", "abs")))

    def test_classes(self):
        heap = start_heap(())
        for k in range(1, 17):
            self.assertEqual(heap[k], ("class", CLASSES[k - 1], BASES[k - 1], ()))
            self.assertEqual(heap[0][1][k - 1], (CLASSES[k - 1], ("ref", k)))

    def test_built_functions(self):
        variables = start_heap(())[0][1]
        self.assertEqual(variables[16:], tuple((x, ("built", x)) for x in BUILT))

    def test_hosts_come_last(self):
        for hosts in (("ask", "told"), ["ask", "told"]):
            variables = start_heap(hosts)[0][1]
            self.assertEqual(variables[:29], start_heap(())[0][1])
            self.assertEqual(
                variables[29:], (("ask", ("host", "ask")), ("told", ("host", "told"))))

    def test_each_heap_is_new(self):
        one = start_heap(())
        one.append(("list", ()))
        self.assertEqual(len(start_heap(())), 17)
        self.assertIsInstance(one, list)


if __name__ == "__main__":
    unittest.main()
