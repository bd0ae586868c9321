import random
import unittest

from pyhold.parsing import parse
from pyhold.printing import shown, without_lines
from tests.helpers import NONE, name, num
from tests.trees_at_random import random_program

SAME = """\
a
-a
not a
not (not a)
-(-a)
a - -b
(-a).b
-a.b
(not a).b
not a == b
(not a) == b
a + b - c
a - (b + c)
a - (b - c)
a * b // c mod d
a * (b mod c)
(a + b) * c
a + b * c
(a or b) and c
a or b and c
a or b or c
a or (b or c)
a and (b and c)
a and b and not c
a < b <= c != d == a >= b > c
a in b not in c is d is not a
(a < b) < c
a < (b < c)
a + b < c * d
(a and b) < c
a if b else c
a or b if c or d else a or b
(a if b else c) if (a if b else c) else (a if b else c)
(a if b else c) or d
not (a if b else c)
a(b if c else d)
a()
a(b, c)
a(b, c=d, d=c if b else a)
a.b.c(d)[a].b
a[b]
a[b:c]
a[:]
a[b:]
a[:b]
a[-1:-2]
a[not b:not c]
a[b if c else d:c if d else a]
(a + b)[c]
(a + b)(c)
(a, b)[c]
[a, b][c]
{a: b}[c]
'a'
1.a
()
(a,)
(a, b)
((a, b), c)
[]
[a]
[a, b]
[(a, b)]
{}
{a: b}
{a: b, c: d}
{a if b else c: d or a}
None
True
False
0
"""


class Shown(unittest.TestCase):
    def test_nothing(self):
        self.assertEqual(shown(()), "")

    def test_example(self):
        self.assertEqual(
            shown(parse("if a:\n b=((c)+1)*2\nelse:\n  if d:\n   f(x,k=1)\n")),
            "if a:\n    b = (c + 1) * 2\nelif d:\n    f(x, k=1)\n")

    def test_expressions_that_are_plain_already(self):
        for words in SAME.splitlines():
            plain = words.replace("'", "\"") + "\n"
            self.assertEqual(shown(parse(words)), plain)

    def test_brackets_that_are_not_asked_for(self):
        for words, plain in (
                ("((a))", "a"), ("(a).b", "a.b"), ("(a.b)(c)", "a.b(c)"), ("-(a.b)", "-a.b"),
                ("(-a) * (-b)", "-a * -b"), ("(a * b) + (c * d)", "a * b + c * d"),
                ("(a + b) + c", "a + b + c"), ("(a + b) < (c - d)", "a + b < c - d"),
                ("not (a < b)", "not a < b"), ("(not a) and (not b)", "not a and not b"),
                ("(a and b) or (c and d)", "a and b or c and d"), ("(a or b) or c", "a or b or c"),
                ("(a and b) and c", "a and b and c"),
                ("(a or b) if (c or d) else (a or b)", "a or b if c or d else a or b"),
                ("f((a), b=(c))", "f(a, b=c)"), ("f((a if b else c))", "f(a if b else c)"),
                ("a[(b)]", "a[b]"), ("a[(b):(c)]", "a[b:c]"), ("[(a)]", "[a]"),
                ("{(a): (b)}", "{a: b}"), ("((a), (b))", "(a, b)"), ("(a)[b]", "a[b]"),
                ("(f(a))(b)", "f(a)(b)"), ("(a[b:])[c]", "a[b:][c]"), ("()[a]", "()[a]"),
                ("('a').b", "\"a\".b"), ("a * (-b)", "a * -b"), ("a mod (b.c)", "a mod b.c")):
            self.assertEqual(shown(parse(words)), plain + "\n")

    def test_spaces(self):
        for words, plain in (
                ("a+b", "a + b"), ("a , b", "(a, b)"), ("f( a,b = c )", "f(a, b=c)"),
                ("a [ b : c ]", "a[b:c]"), ("{a:b ,c:d}", "{a: b, c: d}"), ("- a", "-a"),
                ("a . b ( c )", "a.b(c)"), ("a=b", "a = b"), ("a+=b", "a += b"), ("( )", "()"),
                ("a//=b", "a //= b"), ("a-=b", "a -= b"), ("a*=b", "a *= b"), ("[ a ]", "[a]"),
                ("a if(b)else c", "a if b else c"), ("not(a)", "not a"), ("a in(b)", "a in b")):
            self.assertEqual(shown(parse(words)), plain + "\n")

    def test_texts(self):
        self.assertEqual(shown(parse("'a\"b\\\\\\n\\'c'")), '"a\\"b\\\\\\n\'c"\n')

    def test_integers(self):
        self.assertEqual(shown(parse(str(2 ** 256 - 1))), str(2 ** 256 - 1) + "\n")

    def test_line_statements(self):
        for words, plain in (
                ("pass", "pass"), ("break", "break"), ("continue", "continue"), ("return", "return"),
                ("return None", "return"), ("return a,", "return (a,)"), ("return a", "return a"),
                ("return (None, a)", "return (None, a)"), ("return ()", "return ()"),
                ("yield", "yield"), ("yield None", "yield"), ("yield a, b", "yield (a, b)"),
                ("a = yield", "a = yield"), ("a = yield (None)", "a = yield"),
                ("a, b = yield c", "(a, b) = yield c"), ("raise", "raise"), ("raise None", "raise None"),
                ("raise a(b)", "raise a(b)"), ("del (a)", "del a"), ("del a [ b ]", "del a[b]"),
                ("global a,b", "global a, b"), ("nonlocal a", "nonlocal a"),
                ("a, b = b, a", "(a, b) = (b, a)"), ("a, = b", "(a,) = b"), ("() = a", "() = a"),
                ("a = None", "a = None"), ("(a) += b", "a += b"), ("a.b = c", "a.b = c"),
                ("a += b, c", "a += (b, c)"), ("a[b][c] = d", "a[b][c] = d"),
                ("a, (b, c) = d", "(a, (b, c)) = d"), ("None", "None")):
            self.assertEqual(shown(parse(words)), plain + "\n")

    def test_blocks(self):
        plain = (
            "while a:\n    b\n    c\n"
            "for (a, b) in (c, d):\n    for a.b in c:\n        break\n"
            "def f():\n    return\n"
            "def f(a, b=1, c=a if b else c):\n    global x\n    yield a\n"
            "class A:\n    pass\n"
            "class A(b):\n    class B((a, b)):\n        pass\n"
            "try:\n    a\nexcept a.b as c:\n    d\nexcept a or b:\n    c\nexcept:\n    raise\n"
            "finally:\n    b\n"
            "try:\n    a\nfinally:\n    b\n")
        self.assertEqual(shown(parse(plain)), plain)
        self.assertEqual(shown(parse(plain.replace("    ", " "))), plain)

    def test_elif(self):
        plain = "if a:\n    b\nelif c:\n    d\nelif d:\n    a\nelse:\n    c\n    d\n"
        self.assertEqual(shown(parse(plain)), plain)
        self.assertEqual(
            shown(parse("if a:\n b\nelse:\n if c:\n  d\n else:\n  if d:\n   a\n  else:\n   c\n   d")),
            plain)

    def test_no_elif(self):
        plain = "if a:\n    b\nelse:\n    if c:\n        d\n    d\n"
        self.assertEqual(shown(parse(plain)), plain)
        plain = "if a:\n    b\nelse:\n    d\n    if c:\n        d\n"
        self.assertEqual(shown(parse(plain)), plain)
        plain = "if a:\n    b\nelse:\n    while c:\n        d\n"
        self.assertEqual(shown(parse(plain)), plain)

    def test_elif_within_a_block(self):
        plain = "while a:\n    if a:\n        b\n    elif c:\n        d\n    else:\n        a\n"
        self.assertEqual(shown(parse(plain)), plain)


class AtRandom(unittest.TestCase):
    def test_parse_reads_it_back(self):
        chance = random.Random(7)
        for _ in range(300):
            program = random_program(chance)
            plain = shown(program)
            self.assertEqual(without_lines(parse(plain)), program, plain)
            self.assertEqual(shown(parse(plain)), plain)

    def test_no_bracket_can_be_left_out(self):
        chance = random.Random(8)
        for _ in range(100):
            plain = shown(random_program(chance))
            for at, sign in enumerate(plain):
                if sign == "(":
                    self.check_bracket(plain, at)

    def check_bracket(self, plain, at):
        """Without this bracket and the one that closes it, it is another program or none."""
        end = at
        depth = 1
        while depth > 0:
            end += 1
            depth += {"(": 1, ")": -1}.get(plain[end], 0)
        words = plain[:at] + " " + plain[at + 1:end] + " " + plain[end + 1:]
        try:
            self.assertNotEqual(shown(parse(words)), plain, words)
        except ValueError:
            return
        except AssertionError:
            # a tuple that is a row of its own is shown in brackets all the same
            self.assertTrue("," in plain[at:end] or plain[at + 1] == ")", words)


class WithoutLines(unittest.TestCase):
    def test_example(self):
        self.assertEqual(without_lines(parse("\n\na")), (("do", 0, name("a")),))
        self.assertEqual(without_lines(()), ())

    def test_everywhere(self):
        words = (
            "if a:\n b\nelse:\n c\nwhile a:\n b\nfor a in b:\n c\ndef f(a=b):\n return 7\n"
            "class A:\n pass\ntry:\n a\nexcept a as x:\n b\nexcept:\n c\nfinally:\n d\n"
            "del a\nglobal a\na += 5\na = yield")
        a, b, c, d = name("a"), name("b"), name("c"), name("d")
        self.assertEqual(without_lines(parse(words)), (
            ("if", 0, a, (("do", 0, b),), (("do", 0, c),)),
            ("while", 0, a, (("do", 0, b),)),
            ("for", 0, a, b, (("do", 0, c),)),
            ("def", 0, "f", (("a", b),), (("return", 0, num(7)),), ()),
            ("class", 0, "A", (), (("pass", 0),), ()),
            ("try", 0, (("do", 0, a),), (
                (0, a, "x", (("do", 0, b),)), (0, (), "", (("do", 0, c),))), (("do", 0, d),)),
            ("drop", 0, a), ("global", 0, ("a",)), ("change", 0, "+", a, num(5)),
            ("yield", 0, a, NONE)))


if __name__ == "__main__":
    unittest.main()
