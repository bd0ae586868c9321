import unittest

from pyhold.compiling import compile_text
from pyhold.parsing import parse
from pyhold.printing import shown, without_lines
from pyhold.scopes import bound, lower
from tests.helpers import fault_of, name


def names(words, place=0):
    """The names of the def or class that is the statement at this place."""
    return lower(parse(words))[place][5]


def fault(*lines):
    return fault_of(compile_text, "\n".join(lines))


class Bound(unittest.TestCase):
    def check(self, words, *expected):
        self.assertEqual(bound(parse(words)), expected, words)

    def test_example(self):
        self.check("for x in y:\n  a, x = b\n", "x", "a")

    def test_nothing(self):
        self.check("")
        self.check("a\nf(a=b)\npass\nreturn a\nraise a\nbreak\ncontinue\nyield a")
        self.check("if a:\n b\nelse:\n c\nwhile d:\n e")

    def test_targets(self):
        self.check("a = b", "a")
        self.check("a, b = c", "a", "b")
        self.check("a, (b, (c,)), () = d", "a", "b", "c")
        self.check("a.b = c\na[b] = c\na().b, d[e] = c")
        self.check("a.b, c = d", "c")
        self.check("a += b", "a")
        self.check("a = yield b", "a")
        self.check("a, (b, c) = yield", "a", "b", "c")
        self.check("a.b = yield")
        self.check("for a in b:\n pass", "a")
        self.check("for a, (b, c.d) in e:\n pass", "a", "b")
        self.check("del a", "a")
        self.check("del a[b]")

    def test_defs_and_classes(self):
        self.check("def f(a, b=c):\n d = 1\n global x", "f")
        self.check("class A(b):\n d = 1\n def f():\n  pass", "A")

    def test_blocks(self):
        self.check("if a:\n b = 1\nelif c:\n d = 1\nelse:\n e = 1\nf = 1", "b", "d", "e", "f")
        self.check("while a:\n b = 1\n while c:\n  d = 1", "b", "d")
        self.check("for a in b:\n for c in d:\n  e = 1", "a", "c", "e")
        self.check(
            "try:\n a = 1\nexcept b as c:\n d = 1\nexcept e as f:\n g = 1\nexcept:\n h = 1\n"
            "finally:\n i = 1", "a", "c", "d", "f", "g", "h", "i")
        self.check("try:\n pass\nexcept b:\n pass")

    def test_order_of_the_first_binding(self):
        self.check("b = 1\na = 1\nb = 2", "b", "a")
        self.check("if x:\n c = 1\nfor b in c:\n c, a = b", "c", "b", "a")

    def test_declarations_are_not_looked_at(self):
        self.check("global a\nnonlocal b\na = 1\nb = 2\nc = 3", "a", "b", "c")
        self.check("global a\nnonlocal b")


class Names(unittest.TestCase):
    def test_example(self):
        self.assertEqual(
            names("def f(a):\n  global b\n  b = a\n  c = yield b\n"), (("a", "c"), ("b",), True))

    def test_def(self):
        self.assertEqual(names("def f():\n pass"), ((), (), False))
        self.assertEqual(names("def f(b, a=c):\n pass"), (("b", "a"), (), False))
        self.assertEqual(names("def f(b, a):\n c = 1\n a = 2\n d = 3"), (
            ("b", "a", "c", "d"), (), False))
        self.assertEqual(names("def f():\n f = 1"), (("f",), (), False))
        self.assertEqual(names("def f():\n def g(a):\n  b = 1"), (("g",), (), False))
        self.assertEqual(names("def f():\n class A:\n  b = 1"), (("A",), (), False))

    def test_declared_names_are_no_locals(self):
        self.assertEqual(
            names("def f(a):\n global c, b\n b = 1\n c = 2\n d = 3\n global e"),
            (("a", "d"), ("c", "b", "e"), False))
        lowered = lower(parse("def f(a, b):\n def g(c):\n  nonlocal b\n  b = 1\n  d = 1"))
        self.assertEqual(lowered[0][5], (("a", "b", "g"), (), False))
        self.assertEqual(lowered[0][4][0][5], (("c", "d"), (), False))

    def test_declarations_in_blocks(self):
        self.assertEqual(
            names("def f():\n if a:\n  global b\n else:\n  global c\n b = c"),
            ((), ("b", "c"), False))
        self.assertEqual(
            names("def f():\n try:\n  global a\n finally:\n  global b\n a = 1\n b = 1\n c = 1"),
            (("c",), ("a", "b"), False))

    def test_declarations_of_inner_defs(self):
        lowered = lower(parse("def f():\n def g():\n  global a\n  a = 1\n a = 1"))
        self.assertEqual(lowered[0][5], (("g", "a"), (), False))
        self.assertEqual(lowered[0][4][0][5], ((), ("a",), False))

    def test_makes(self):
        self.assertIs(names("def f():\n yield")[2], True)
        self.assertIs(names("def f():\n a = yield b")[2], True)
        self.assertIs(names("def f():\n if a:\n  while b:\n   yield")[2], True)
        self.assertIs(names("def f():\n try:\n  pass\n except:\n  yield")[2], True)
        self.assertIs(names("def f():\n try:\n  pass\n finally:\n  yield")[2], True)
        self.assertIs(names("def f():\n def g():\n  yield")[2], False)
        self.assertIs(names("def f():\n class A:\n  def g():\n   yield")[2], False)
        self.assertIs(names("def f():\n return 1")[2], False)

    def test_class(self):
        self.assertEqual(
            names("class A:\n b = 1\n def c(d):\n  e = 1\n a = 2"), (("b", "c", "a"), (), False))
        self.assertEqual(names("class A:\n pass"), ((), (), False))
        self.assertEqual(names("class A:\n def f():\n  yield"), (("f",), (), False))

    def test_nothing_else_changes(self):
        words = (
            "if a:\n b\nelse:\n c\nwhile a:\n break\nfor a in b:\n continue\n"
            "try:\n a\nexcept a as x:\n b\nexcept:\n c\nfinally:\n d\ndel a\na += 5\nraise")
        self.assertEqual(lower(parse(words)), parse(words))
        self.assertEqual(lower(()), ())

    def test_in_all_blocks(self):
        inner = "def f():\n  a = 1\n"
        for words in ("if a:\n {}", "if a:\n b\nelse:\n {}", "while a:\n {}", "for a in b:\n {}",
                      "try:\n {}\nfinally:\n b", "try:\n b\nexcept:\n {}", "try:\n b\nfinally:\n {}",
                      "if a:\n b\nelif a:\n {}"):
            program = lower(parse(words.replace("{}", inner)))
            self.assertIn("(('a',), (), False)", repr(program), words)

    def test_the_whole_def(self):
        self.assertEqual(lower(parse("def f(a=b):\n c = 1\nd")), (
            ("def", 1, "f", (("a", name("b")),), (("set", 2, name("c"), ("const", ("int", 1))),),
             (("a", "c"), (), False)), ("do", 3, name("d"))))
        self.assertEqual(lower(parse("class A(b):\n c = 1")), (
            ("class", 1, "A", name("b"), (("set", 2, name("c"), ("const", ("int", 1))),),
             (("c",), (), False)),))


class PlainTexts(unittest.TestCase):
    def test_of_programs_with_names(self):
        plain = "def f(a):\n    b = a\n"
        lowered = lower(parse(plain))
        self.assertEqual(shown(lowered), plain)
        self.assertEqual(without_lines(lowered)[0][5], (("a", "b"), (), False))


class Places(unittest.TestCase):
    def test_loops(self):
        for word in ("break", "continue"):
            reason = word + " outside a loop"
            self.assertEqual(fault("a", word), (2, reason))
            self.assertEqual(fault("if a:", " " + word), (2, reason))
            self.assertEqual(fault("while a:", " pass", word), (3, reason))
            self.assertEqual(fault("while a:", " def f():", "  " + word), (3, reason))
            self.assertEqual(fault("for a in b:", " class A:", "  " + word), (3, reason))
            self.assertEqual(fault("try:", " a", "finally:", " " + word), (4, reason))
            self.assertIsNone(fault("while a:", " " + word))
            self.assertIsNone(fault("for a in b:", " " + word))
            self.assertIsNone(fault("def f():", " while a:", "  " + word))
            self.assertIsNone(fault("class A:", " for a in b:", "  " + word))
            self.assertIsNone(fault("while a:", " if b:", "  try:", "   " + word, "  finally:", "   a"))
            self.assertIsNone(fault("while a:", " try:", "  a", " except:", "  " + word))
            self.assertIsNone(fault("while a:", " try:", "  a", " finally:", "  " + word))
            self.assertIsNone(fault("while a:", " if b:", "  a", " else:", "  " + word))

    def test_functions(self):
        for words in ("return", "return a", "yield", "a = yield", "yield a"):
            reason = ("return" if "return" in words else "yield") + " outside a function"
            self.assertEqual(fault("a", words), (2, reason))
            self.assertEqual(fault("class A:", " " + words), (2, reason))
            self.assertEqual(fault("def f():", " class A:", "  " + words), (3, reason))
            self.assertEqual(fault("while a:", " " + words), (2, reason))
            self.assertIsNone(fault("def f():", " " + words))
            self.assertIsNone(fault("class A:", " def f():", "  if a:", "   " + words))

    def test_declarations(self):
        for words in ("global a", "nonlocal a"):
            reason = "declaration outside a function"
            self.assertEqual(fault("b", words), (2, reason))
            self.assertEqual(fault("class A:", " " + words), (2, reason))
            self.assertEqual(fault("def f(a):", " class A:", "  " + words), (3, reason))
            self.assertEqual(fault("if a:", " " + words), (2, reason))
        self.assertIsNone(fault("def f():", " global a"))
        self.assertIsNone(fault("class A:", " def f():", "  global a"))


class Parameters(unittest.TestCase):
    def test_twice(self):
        self.assertEqual(fault("a", "def f(b, c, b):", " pass"), (2, "parameter twice"))
        self.assertEqual(fault("def f(b, b=c):", " pass"), (1, "parameter twice"))
        self.assertEqual(fault("class A:", " def f(a, a):", "  pass"), (2, "parameter twice"))
        self.assertIsNone(fault("def f(a, b, c=a):", " pass"))

    def test_without_a_default(self):
        reason = "parameter without a default"
        self.assertEqual(fault("a", "def f(b, c=d, e):", " pass"), (2, reason))
        self.assertEqual(fault("def f(b=1, c=2, d):", " pass"), (1, reason))
        self.assertIsNone(fault("def f(a, b, c=1, d=2):", " pass"))

    def test_both(self):
        self.assertEqual(fault("def f(a=1, b, b):", " pass"), (1, "parameter twice"))
        self.assertEqual(fault("def f(a=1, b, a=2):", " pass"), (1, "parameter twice"))

    def test_ahead_of_the_block(self):
        self.assertEqual(fault("def f(a, a):", " break"), (1, "parameter twice"))
        self.assertEqual(fault("def f(a):", " break", "def g(a, a):", " pass"), (
            2, "break outside a loop"))


class Declarations(unittest.TestCase):
    def test_parameter(self):
        for word in ("global", "nonlocal"):
            reason = "name is a parameter"
            self.assertEqual(fault("def f(a):", " " + word + " a"), (2, reason))
            self.assertEqual(fault("def f(b, a=b):", " if b:", "  " + word + " a"), (3, reason))
            self.assertEqual(
                fault("def g(a, b):", " def f(a):", "  b", "  " + word + " a"), (4, reason))

    def test_parameter_comes_first(self):
        self.assertEqual(fault("def f(a):", " a", " nonlocal a"), (3, "name is a parameter"))
        self.assertEqual(
            fault("def f(a):", " global b", " global a, b"), (3, "name is a parameter"))

    def test_twice(self):
        reason = "name declared twice"
        self.assertEqual(fault("def f():", " global a, b, a"), (2, reason))
        self.assertEqual(fault("def f():", " global a", " global a"), (3, reason))
        self.assertEqual(fault("def g(a):", " def f():", "  nonlocal a", "  nonlocal a"), (4, reason))
        self.assertEqual(fault("def g(a):", " def f():", "  nonlocal a", "  global a"), (4, reason))
        self.assertEqual(fault("def f():", " global a", " nonlocal a"), (3, reason))
        self.assertEqual(
            fault("def f():", " if b:", "  global a", " else:", "  global a"), (5, reason))
        self.assertIsNone(fault("def f():", " global a", "def g():", " global a"))
        self.assertIsNone(fault("def f():", " global a", " def g():", "  global a"))

    def test_twice_comes_ahead_of_used(self):
        self.assertEqual(
            fault("def f():", " global a", " a = 1", " global a"), (4, "name declared twice"))

    def test_used(self):
        reason = "name used before its declaration"
        for words in ("x", "x = 1", "x += 1", "a += x", "x, a = 1", "a.b = x", "x.a = 1", "a[x] = 1",
                      "x[a] = 1", "del x", "del x[a]", "del a[x]", "return x", "raise x", "yield x",
                      "x = yield", "a.b = yield x", "x[0] = yield", "f(x)", "f(a=x)", "x.a", "-x",
                      "not x", "a + x", "a and x", "x or a", "a < x", "a if x else b", "a[x:b]",
                      "a[b:x]", "(a, x)", "[x]", "{x: a}", "{a: x}", "a, (b, x) = c",
                      "def x():\n  pass", "def f(a=x):\n  pass", "class x:\n  pass",
                      "class A(x):\n  pass", "if x:\n  pass", "while x:\n  pass",
                      "for x in a:\n  pass", "for a in x:\n  pass", "for a, x in b:\n  pass",
                      "for a.b[x] in c:\n  pass", "if a:\n  x", "if a:\n  b\n else:\n  x",
                      "if a:\n  b\n elif x:\n  c", "while a:\n  x", "for a in b:\n  x",
                      "try:\n  x\n finally:\n  a", "try:\n  a\n except x:\n  a",
                      "try:\n  a\n except b as x:\n  a", "try:\n  a\n except:\n  x",
                      "try:\n  a\n finally:\n  x"):
            rows = ["def f():"] + (" " + words).split("\n") + [" global x"]
            self.assertEqual(fault(*rows), (len(rows), reason), words)

    def test_not_used(self):
        for words in ("a.x", "f(x=1)", "a.x = 1", "'x'", "def g():\n  x = 1", "def g(x):\n  x",
                      "class A:\n  x = 1", "def g():\n  class A(x):\n   pass", "pass",
                      "class A:\n  def x():\n   pass", "y", "class A:\n  x\n  x = 2"):
            rows = ["def f():"] + (" " + words).split("\n") + [" global x"]
            self.assertIsNone(fault(*rows), words)

    def test_used_in_the_statements_around(self):
        reason = "name used before its declaration"
        self.assertEqual(fault("def f():", " if x:", "  global x"), (3, reason))
        self.assertEqual(fault("def f():", " while x:", "  global x"), (3, reason))
        self.assertEqual(fault("def f():", " for x in a:", "  global x"), (3, reason))
        self.assertEqual(fault("def f():", " for a in x:", "  global x"), (3, reason))
        self.assertEqual(
            fault("def f():", " if a:", "  b", " elif x:", "  global x"), (5, reason))

    def test_used_by_the_handlers_of_a_try(self):
        reason = "name used before its declaration"
        self.assertEqual(
            fault("def f():", " try:", "  global x", " except x:", "  a"), (3, reason))
        self.assertEqual(
            fault("def f():", " try:", "  global x", " except a as x:", "  a"), (3, reason))
        self.assertEqual(
            fault("def f():", " try:", "  a", " except a:", "  global x", " except x:", "  b"),
            (5, reason))
        self.assertIsNone(
            fault("def f():", " try:", "  global x", " except a:", "  x", " finally:", "  x"))

    def test_used_behind_it(self):
        self.assertIsNone(fault("def f():", " global x", " x = x", " del x"))
        self.assertIsNone(fault("x = 1", "def f(a=x):", " global x", "x"))
        self.assertIsNone(fault("def f():", " def g():", "  global x", " x = 1"))
        self.assertIsNone(fault("def f():", " if a:", "  global x", " else:", "  x"))
        self.assertIsNone(fault("def f(x):", " x", " def g():", "  nonlocal x"))

    def test_used_comes_ahead_of_no_outer_name(self):
        self.assertEqual(
            fault("def f():", " x", " nonlocal x"), (3, "name used before its declaration"))

    def test_no_outer_name(self):
        reason = "no outer name"
        self.assertEqual(fault("x = 1", "def f():", " nonlocal x"), (3, reason))
        self.assertEqual(fault("class A:", " x = 1", " def f():", "  nonlocal x"), (4, reason))
        self.assertEqual(fault("def g():", " x", " def f():", "  nonlocal x"), (4, reason))
        self.assertEqual(fault("def g():", " global x", " def f():", "  nonlocal x"), (4, reason))
        self.assertEqual(fault("def g():", " def f():", "  nonlocal x", " global x"), (3, reason))
        self.assertEqual(
            fault("def h(x):", " def g():", "  global x", "  def f():", "   nonlocal x"), (5, reason))
        self.assertEqual(fault("def f():", " def g():", "  nonlocal g2", " g3 = 1"), (3, reason))
        self.assertEqual(fault("def x():", " nonlocal x"), (2, reason))
        self.assertEqual(fault("def f():", " nonlocal x", " x = 1"), (2, reason))

    def test_outer_names(self):
        self.assertIsNone(fault("def g(x):", " def f():", "  nonlocal x"))
        self.assertIsNone(fault("def g():", " x = 1", " def f():", "  nonlocal x"))
        self.assertIsNone(fault("def g():", " def f():", "  nonlocal x", " x = 1"))
        self.assertIsNone(fault("def g():", " def f():", "  nonlocal f"))
        self.assertIsNone(fault("def h(x):", " def g():", "  def f():", "   nonlocal x"))
        self.assertIsNone(fault("def h(x):", " class A:", "  def f():", "   nonlocal x"))
        self.assertIsNone(
            fault("def h(x):", " class A:", "  x = 1", "  def f():", "   nonlocal x"))
        self.assertIsNone(
            fault("def h(x):", " def g():", "  nonlocal x", "  def f():", "   nonlocal x"))
        self.assertIsNone(
            fault("def h():", " global x", " def g(x):", "  def f():", "   nonlocal x"))
        self.assertIsNone(
            fault("def g():", " for x in a:", "  def f():", "   nonlocal x", "   x += 1"))

    def test_declarations_in_a_class_declare_nothing(self):
        self.assertEqual(
            fault("def g():", " x = 1", " def f():", "  nonlocal x", " class A:", "  global x"),
            (6, "declaration outside a function"))

    def test_a_parameter_counts_as_a_local(self):
        self.assertEqual(
            fault("def g(x):", " def f():", "  nonlocal x", " nonlocal x"), (4, "name is a parameter"))
        self.assertEqual(
            fault("def g(x):", " def f():", "  nonlocal x", " global x"), (4, "name is a parameter"))

    def test_names_from_the_left_to_the_right(self):
        self.assertEqual(
            fault("def f(b):", " a", " global a, b"), (3, "name used before its declaration"))
        self.assertEqual(fault("def f(b):", " a", " global b, a"), (3, "name is a parameter"))
        self.assertEqual(fault("def f(b):", " nonlocal a, b"), (2, "no outer name"))


class Order(unittest.TestCase):
    def test_from_the_first_statement_to_the_last(self):
        self.assertEqual(fault("def f(a):", " break", " global a"), (2, "break outside a loop"))
        self.assertEqual(fault("def f(a):", " global a", " break"), (2, "name is a parameter"))
        self.assertEqual(fault("if a:", " break", "else:", " return"), (2, "break outside a loop"))
        self.assertEqual(fault("class A:", " return", "yield"), (2, "return outside a function"))
        self.assertEqual(
            fault("def g():", " def f():", "  nonlocal x", " global x, x"), (3, "no outer name"))
        self.assertEqual(
            fault("try:", " pass", "except a:", " break", "finally:", " return"),
            (4, "break outside a loop"))
        self.assertEqual(
            fault("try:", " pass", "except a:", " pass", "finally:", " return", "break"),
            (6, "return outside a function"))
        self.assertEqual(
            fault("try:", " yield", "except a:", " break"), (2, "yield outside a function"))


if __name__ == "__main__":
    unittest.main()
