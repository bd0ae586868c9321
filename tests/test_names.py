import unittest

from pyhold.core import start_heap
from pyhold.names import bind_name, look_up, unbind_name
from tests.heaps import DONE, NONE, YES, ints

ONE, TWO, THREE = ints(1, 2, 3)


def scope(variables=(), own=(), shared=(), around=0, of_class=False):
    return ("scope", variables, own, shared, around, of_class)


def module(*variables):
    return scope(variables, around=-1)


def not_bound(x):
    return ("raise", 8, "not bound: " + x)


class LookUp(unittest.TestCase):
    def check(self, heap, env, x, expected):
        before = list(heap)
        self.assertEqual(look_up(heap, env, x), expected)
        self.assertEqual(heap, before)

    def test_module(self):
        heap = start_heap(("ask",))
        self.check(heap, 0, "len", ("ok", ("built", "len")))
        self.check(heap, 0, "ask", ("ok", ("host", "ask")))
        self.check(heap, 0, "Exception", ("ok", ("ref", 1)))
        self.check(heap, 0, "lens", not_bound("lens"))
        self.check([module(("a", NONE))], 0, "a", ("ok", NONE))
        self.check([module()], 0, "a", not_bound("a"))

    def test_functions(self):
        heap = [module(("a", ONE), ("b", TWO)), scope((("a", THREE),), ("a",))]
        self.check(heap, 1, "a", ("ok", THREE))
        self.check(heap, 1, "b", ("ok", TWO))
        self.check(heap, 1, "c", not_bound("c"))

    def test_local_without_a_value(self):
        heap = [module(("a", ONE)), scope((("b", TWO),), ("a", "b"))]
        self.check(heap, 1, "a", not_bound("a"))
        self.check(heap + [scope(around=1)], 2, "a", not_bound("a"))
        self.check(heap + [scope(around=1)], 2, "b", ("ok", TWO))

    def test_globals(self):
        heap = [module(("a", ONE)), scope((("a", TWO),), ("a",)), scope((), (), ("a", "b"), 1)]
        self.check(heap, 2, "a", ("ok", ONE))
        self.check(heap, 2, "b", not_bound("b"))
        heap.append(scope((), (), (), 2))
        self.check(heap, 3, "a", ("ok", ONE))
        self.check(heap, 3, "b", not_bound("b"))

    def test_globals_of_a_scope_around_hide_those_farther_out(self):
        heap = [module(), scope((("a", TWO),), ("a",)), scope((), (), ("a",), 1), scope((), (), (), 2)]
        self.check(heap, 3, "a", not_bound("a"))
        self.check(heap, 2, "a", not_bound("a"))
        self.check(heap, 1, "a", ("ok", TWO))

    def test_the_nearest_scope_decides(self):
        heap = [module(("a", ONE)), scope((("a", TWO),), ("a",)), scope((("a", THREE),), ("a",), (), 1),
                scope((), (), (), 2)]
        self.check(heap, 3, "a", ("ok", THREE))
        self.check(heap, 2, "a", ("ok", THREE))
        self.check(heap, 1, "a", ("ok", TWO))
        self.check(heap, 0, "a", ("ok", ONE))

    def test_classes(self):
        heap = [module(("a", ONE), ("b", TWO)), scope((("b", THREE),), ("a", "b", "c"), (), 0, True)]
        self.check(heap, 1, "a", ("ok", ONE))
        self.check(heap, 1, "b", ("ok", THREE))
        self.check(heap, 1, "c", not_bound("c"))

    def test_classes_are_passed_over(self):
        heap = [module(("a", ONE)), scope((("a", TWO), ("b", TWO)), ("a", "b"), ("c",), 0, True),
                scope(around=1), scope((), ("a",), (), 1, True), scope(around=3)]
        for env in (2, 3, 4):
            self.check(heap, env, "a", ("ok", ONE))
            self.check(heap, env, "b", not_bound("b"))
        heap[3] = scope((("a", THREE),), ("a",), (), 1, True)
        self.check(heap, 3, "a", ("ok", THREE))
        self.check(heap, 4, "a", ("ok", ONE))

    def test_a_class_in_a_function(self):
        heap = [module(("a", ONE)), scope((), ("a",)), scope((), ("a",), (), 1, True), scope(around=2)]
        for env in (1, 2, 3):
            self.check(heap, env, "a", not_bound("a"))
        heap[1] = scope((("a", TWO),), ("a",))
        for env in (1, 2, 3):
            self.check(heap, env, "a", ("ok", TWO))

    def test_a_local_of_a_class_does_not_hide_the_globals_around(self):
        heap = [module(("a", ONE)), scope((), (), ("a",)), scope((), ("a",), (), 1, True)]
        self.check(heap, 2, "a", ("ok", ONE))
        heap[0] = module()
        self.check(heap, 2, "a", not_bound("a"))

    def test_variables_that_are_no_locals(self):
        heap = [module(("a", ONE)), scope((("a", TWO),))]
        self.check(heap, 1, "a", ("ok", TWO))

    def test_deep(self):
        heap = [module(("a", ONE))]
        for k in range(1000):
            heap.append(scope(around=k))
        self.check(heap, 1000, "a", ("ok", ONE))
        self.check(heap, 1000, "b", not_bound("b"))


class Bind(unittest.TestCase):
    def check(self, heap, env, x, home, variables):
        """Binds x to YES: the scope `home` has these variables then, and nothing else changes."""
        before = list(heap)
        self.assertIsNone(bind_name(heap, env, x, YES))
        _, _, own, shared, around, of_class = before[home]
        before[home] = ("scope", variables, own, shared, around, of_class)
        self.assertEqual(heap, before)

    def test_module(self):
        self.check([module()], 0, "a", 0, (("a", YES),))
        heap = [module(("a", ONE), ("b", TWO))]
        self.check(heap, 0, "a", 0, (("a", YES), ("b", TWO)))
        self.check(heap, 0, "c", 0, (("a", YES), ("b", TWO), ("c", YES)))
        heap = start_heap(())
        bind_name(heap, 0, "len", ONE)
        self.assertEqual(look_up(heap, 0, "len"), ("ok", ONE))
        self.assertEqual(len(heap[0][1]), len(start_heap(())[0][1]))

    def test_locals(self):
        heap = [module(("a", ONE)), scope((), ("a", "b"))]
        self.check(heap, 1, "b", 1, (("b", YES),))
        self.check(heap, 1, "a", 1, (("b", YES), ("a", YES)))
        heap[1] = scope((("b", ONE), ("a", TWO)), ("a", "b"))
        self.check(heap, 1, "b", 1, (("b", YES), ("a", TWO)))

    def test_globals(self):
        heap = [module(("b", ONE)), scope((), ("c",), ("a",))]
        self.check(heap, 1, "a", 0, (("b", ONE), ("a", YES)))
        heap = [module(("a", ONE)), scope((("a", ONE),), ("a",)), scope((), (), ("a",), 1)]
        self.check(heap, 2, "a", 0, (("a", YES),))

    def test_classes(self):
        heap = [module(("a", ONE)), scope((), ("a",), (), 0, True)]
        self.check(heap, 1, "a", 1, (("a", YES),))
        self.check(heap, 1, "b", 1, (("a", YES), ("b", YES)))
        heap = [module(), scope((), ("a",)), scope((), (), (), 1, True)]
        self.check(heap, 2, "a", 2, (("a", YES),))
        heap = [module(), scope((), (), ("a",), 0, True)]
        self.check(heap, 1, "a", 0, (("a", YES),))

    def test_scopes_around(self):
        heap = [module(("a", ONE)), scope((("a", ONE),), ("a",)), scope((), ("b",), (), 1), scope((), (), (), 2)]
        self.check(heap, 3, "a", 1, (("a", YES),))
        self.check(heap, 3, "b", 2, (("b", YES),))
        self.check(heap, 2, "a", 1, (("a", YES),))

    def test_the_first_scope_around_that_has_it(self):
        heap = [module(), scope((), ("a",)), scope((), ("a",), (), 1), scope((), (), (), 2)]
        self.check(heap, 3, "a", 2, (("a", YES),))
        heap = [module(), scope((), ("a",)), scope((), (), ("a",), 1), scope((), (), (), 2)]
        self.check(heap, 3, "a", 0, (("a", YES),))
        heap = [module(), scope((), (), ("a",)), scope((), ("a",), (), 1), scope((), (), (), 2)]
        self.check(heap, 3, "a", 2, (("a", YES),))

    def test_a_variable_alone_does_not_count(self):
        heap = [module(), scope((), ("a",)), scope((("a", ONE),), (), (), 1), scope((), (), (), 2)]
        self.check(heap, 3, "a", 1, (("a", YES),))

    def test_classes_are_passed_over(self):
        heap = [module(), scope((), ("a",)), scope((("a", ONE),), ("a",), (), 1, True), scope((), (), (), 2)]
        self.check(heap, 3, "a", 1, (("a", YES),))
        heap[2] = scope((), (), ("a",), 1, True)
        self.check(heap, 3, "a", 1, (("a", YES),))

    def test_scopes_are_not_changed_in_place(self):
        heap = [module(("a", ONE)), scope((("b", ONE),), ("b",))]
        before = list(heap)
        bind_name(heap, 0, "a", YES)
        bind_name(heap, 1, "b", YES)
        unbind_name(heap, 1, "b")
        self.assertEqual(before, [module(("a", ONE)), scope((("b", ONE),), ("b",))])

    def test_in_themselves(self):
        heap = [module()]
        bind_name(heap, 0, "a", ("ref", 0))
        self.assertEqual(heap, [module(("a", ("ref", 0)))])


class Unbind(unittest.TestCase):
    def check(self, heap, env, x, home, variables):
        before = list(heap)
        self.assertEqual(unbind_name(heap, env, x), DONE)
        _, _, own, shared, around, of_class = before[home]
        before[home] = ("scope", variables, own, shared, around, of_class)
        self.assertEqual(heap, before)

    def refused(self, heap, env, x):
        before = list(heap)
        self.assertEqual(unbind_name(heap, env, x), not_bound(x))
        self.assertEqual(heap, before)

    def test_module(self):
        heap = [module(("a", ONE), ("b", TWO), ("c", THREE))]
        self.check(heap, 0, "b", 0, (("a", ONE), ("c", THREE)))
        self.refused(heap, 0, "b")
        self.check(heap, 0, "c", 0, (("a", ONE),))
        self.check(heap, 0, "a", 0, ())
        self.refused(heap, 0, "a")

    def test_it_comes_to_the_end_when_it_is_bound_again(self):
        heap = [module(("a", ONE), ("b", TWO))]
        self.assertEqual(unbind_name(heap, 0, "a"), DONE)
        bind_name(heap, 0, "a", THREE)
        self.assertEqual(heap, [module(("b", TWO), ("a", THREE))])

    def test_locals(self):
        heap = [module(("a", ONE)), scope((("a", ONE),), ("a",))]
        self.check(heap, 1, "a", 1, ())
        self.refused(heap, 1, "a")
        self.assertEqual(look_up(heap, 1, "a"), not_bound("a"))

    def test_globals(self):
        heap = [module(("a", ONE)), scope((("a", ONE),), ("a",)), scope((), (), ("a",), 1)]
        self.check(heap, 2, "a", 0, ())
        self.refused(heap, 2, "a")

    def test_classes(self):
        heap = [module(("a", ONE)), scope((("b", ONE),), ("a", "b"), (), 0, True)]
        self.refused(heap, 1, "a")
        self.check(heap, 1, "b", 1, ())
        self.refused(heap, 1, "b")

    def test_scopes_around(self):
        heap = [module(("a", ONE)), scope((("a", ONE),), ("a",)), scope((("a", TWO),), ("a",), (), 1, True),
                scope((), (), (), 2)]
        self.check(heap, 3, "a", 1, ())
        self.refused(heap, 3, "a")
        heap = [module(("a", ONE)), scope((("a", ONE),), (), ("a",)), scope((), (), (), 1)]
        self.check(heap, 2, "a", 0, ())
        self.refused(heap, 2, "a")


if __name__ == "__main__":
    unittest.main()
