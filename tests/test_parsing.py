import unittest

from pyhold.parsing import parse
from tests.helpers import NONE, TRUE, fault_of, name, num, text

A, B, C, D = name("a"), name("b"), name("c"), name("d")
PASS2 = (("pass", 2),)


def one(words):
    """The only statement of a text."""
    (statement,) = parse(words)
    return statement


class Programs(unittest.TestCase):
    def test_empty(self):
        self.assertEqual(parse(""), ())
        self.assertEqual(parse("\n # a\n"), ())

    def test_row_of_statements(self):
        self.assertEqual(parse("a\n\nb # c\n"), (("do", 1, A), ("do", 3, B)))
        self.assertIsInstance(parse("a"), tuple)

    def test_example(self):
        self.assertEqual(
            parse("a = 1 - b"), (("set", 1, A, ("bin", "-", num(1), B)),))

    def test_lines_are_those_of_the_first_token(self):
        self.assertEqual(parse("(a,\nb)\nc"), (("do", 1, ("tuple", (A, B))), ("do", 3, C)))
        self.assertEqual(parse("\n\n(\na)"), (("do", 3, A),))

    def test_texts_are_no_words_and_no_signs(self):
        for word in ("pass", "if", "return", "None", "not", "global", "(", "-", "in", "elif"):
            self.assertEqual(parse("'" + word + "'"), (("do", 1, text(word)),))
        for word in ("in", "+", ".", "=", ",", "or", "if", "(", "**", "is"):
            self.assertEqual(fault_of(parse, "a '" + word + "' b"), (1, "invalid syntax"), word)
        self.assertEqual(fault_of(parse, "a('b' '=' c)"), (1, "invalid syntax"))
        self.assertEqual(fault_of(parse, "a(b '=' c)"), (1, "invalid syntax"))

    def test_faults_of_words(self):
        self.assertEqual(fault_of(parse, "a b\n1a"), (2, "invalid integer"))
        self.assertEqual(fault_of(parse, "a b\n%"), (2, "character not allowed"))
        self.assertEqual(fault_of(parse, "a b" + " " * 20000), (1, "text too long"))

    def test_indent_without_a_block(self):
        self.assertEqual(fault_of(parse, "\n a"), (2, "invalid syntax"))
        self.assertEqual(fault_of(parse, "a\n  b"), (2, "invalid syntax"))
        self.assertEqual(fault_of(parse, "if a:\n b\n  c"), (3, "invalid syntax"))


class LineStatements(unittest.TestCase):
    def test_words(self):
        for word in ("pass", "break", "continue"):
            self.assertEqual(parse("\n" + word), ((word, 2),))
            self.assertEqual(fault_of(parse, word + " a"), (1, "invalid syntax"))

    def test_do(self):
        self.assertEqual(one("a, b"), ("do", 1, ("tuple", (A, B))))
        self.assertEqual(one("()"), ("do", 1, ("tuple", ())))

    def test_return(self):
        self.assertEqual(one("return"), ("return", 1, NONE))
        self.assertEqual(one("return a"), ("return", 1, A))
        self.assertEqual(one("return a, b"), ("return", 1, ("tuple", (A, B))))
        self.assertEqual(one("return a,"), ("return", 1, ("tuple", (A,))))

    def test_raise(self):
        self.assertEqual(one("raise"), ("raise", 1, ()))
        self.assertEqual(one("raise a(b)"), ("raise", 1, ("call", A, (B,), ())))
        self.assertEqual(fault_of(parse, "raise a, b"), (1, "invalid syntax"))

    def test_del(self):
        self.assertEqual(one("del a"), ("drop", 1, A))
        self.assertEqual(one("del (a)"), ("drop", 1, A))
        self.assertEqual(one("del a[b]"), ("drop", 1, ("item", A, B)))
        self.assertEqual(one("del a.b[c]"), ("drop", 1, ("item", ("attr", A, "b"), C)))

    def test_del_of_what_is_no_target(self):
        for words in ("a.b", "a[b:c]", "a()", "1", "()", "(a, b)", "(a,)", "[a]", "(a + b)",
                      "(-a)", "None", "1 + a", "1, a", "a() = b", "1 a", "(a, b) + c"):
            self.assertEqual(fault_of(parse, "\ndel " + words), (2, "not a target"), words)

    def test_del_reads_a_primary(self):
        for words in ("a, b", "a + b", "a = b", "a if b else c", "a in b", "a b", "-a", "not a",
                      "", "a[b], c", "a,", "del a", "+ 1"):
            self.assertEqual(fault_of(parse, "\ndel " + words), (2, "invalid syntax"), words)

    def test_del_not_a_target_ahead_of_what_follows(self):
        self.assertEqual(fault_of(parse, "del (\n1\n) b"), (1, "not a target"))
        self.assertEqual(fault_of(parse, "del (\na\n) b"), (3, "invalid syntax"))
        self.assertEqual(fault_of(parse, "del a.b(\n+)"), (2, "invalid syntax"))

    def test_declarations(self):
        for word in ("global", "nonlocal"):
            self.assertEqual(one(word + " a"), (word, 1, ("a",)))
            self.assertEqual(one(word + " a, b, a"), (word, 1, ("a", "b", "a")))
            for words in ("", " a,", " a b", " 1", " a.b", " (a)", " a = b", " if", " ,", " a,,b"):
                self.assertEqual(fault_of(parse, word + words), (1, "invalid syntax"), words)

    def test_many_names(self):
        for word in ("global ", "nonlocal "):
            self.assertEqual(len(one(word + ",".join(["a"] * 200))[2]), 200)
            self.assertEqual(
                fault_of(parse, "\n" + word + ",".join(["a"] * 201)), (2, "too many parts"))

    def test_yield(self):
        self.assertEqual(one("yield"), ("yield", 1, (), NONE))
        self.assertEqual(one("yield a"), ("yield", 1, (), A))
        self.assertEqual(one("yield a, b"), ("yield", 1, (), ("tuple", (A, B))))
        self.assertEqual(one("a = yield"), ("yield", 1, A, NONE))
        self.assertEqual(one("a = yield b"), ("yield", 1, A, B))
        self.assertEqual(one("a = yield b,"), ("yield", 1, A, ("tuple", (B,))))
        self.assertEqual(one("a, b = yield c"), ("yield", 1, ("tuple", (A, B)), C))
        self.assertEqual(one("a.b = yield c"), ("yield", 1, ("attr", A, "b"), C))
        for words in ("yield = a", "yield a = b", "a = yield = b", "a = yield b = c",
                      "return yield", "a += yield", "a = b = yield", "yield yield", "a = b, yield"):
            self.assertEqual(fault_of(parse, words), (1, "invalid syntax"), words)
        self.assertEqual(fault_of(parse, "1 = yield"), (1, "not a target"))

    def test_set(self):
        self.assertEqual(one("a = b"), ("set", 1, A, B))
        self.assertEqual(one("(a) = b"), ("set", 1, A, B))
        self.assertEqual(one("a = b, c"), ("set", 1, A, ("tuple", (B, C))))
        self.assertEqual(one("a = b,"), ("set", 1, A, ("tuple", (B,))))
        self.assertEqual(
            one("a, b = b, a"), ("set", 1, ("tuple", (A, B)), ("tuple", (B, A))))
        self.assertEqual(one("a, = b"), ("set", 1, ("tuple", (A,)), B))
        self.assertEqual(one("(a, b) = c"), ("set", 1, ("tuple", (A, B)), C))
        self.assertEqual(one("() = a"), ("set", 1, ("tuple", ()), A))
        self.assertEqual(one("a.b = c"), ("set", 1, ("attr", A, "b"), C))
        self.assertEqual(one("a[b] = c"), ("set", 1, ("item", A, B), C))
        self.assertEqual(one("a().b = c"), ("set", 1, ("attr", ("call", A, (), ()), "b"), C))
        self.assertEqual(one("a, (b, (c[d],)), () = d"), ("set", 1, (
            "tuple", (A, ("tuple", (B, ("tuple", (("item", C, D),)))), ("tuple", ()))), D))
        self.assertEqual(fault_of(parse, "a = b = c"), (1, "invalid syntax"))
        self.assertEqual(fault_of(parse, "a ="), (1, "invalid syntax"))
        self.assertEqual(fault_of(parse, "= a"), (1, "invalid syntax"))
        self.assertEqual(fault_of(parse, "a = if"), (1, "invalid syntax"))

    def test_set_of_what_is_no_target(self):
        for words in ("1", "None", "'a'", "a()", "a[b:c]", "[a]", "[]", "{}", "-a", "not a",
                      "a + b", "a < b", "a or b", "a and b", "a if b else c", "a, 1", "(a, 1)",
                      "a, (b, c())", "(a + b)", "a.b, 1", "True"):
            self.assertEqual(fault_of(parse, "\n" + words + " = a"), (2, "not a target"), words)

    def test_not_a_target_ahead_of_what_follows(self):
        self.assertEqual(fault_of(parse, "1 = = a"), (1, "not a target"))
        self.assertEqual(fault_of(parse, "(\n1\n) = a b"), (1, "not a target"))
        self.assertEqual(fault_of(parse, "(\na\n) = a b"), (3, "invalid syntax"))
        self.assertEqual(fault_of(parse, "1 a = b"), (1, "invalid syntax"))

    def test_change(self):
        for op in ("+", "-", "*", "//"):
            self.assertEqual(one("a " + op + "= b"), ("change", 1, op, A, B))
        self.assertEqual(one("(a) += b"), ("change", 1, "+", A, B))
        self.assertEqual(one("((a)) += b"), ("change", 1, "+", A, B))
        self.assertEqual(one("a += b, c"), ("change", 1, "+", A, ("tuple", (B, C))))
        for words in ("a.b", "a[b]", "a, b", "a,", "()", "1", "a()", "-a", "(a, b)", "a + b"):
            for sign in ("+=", "-=", "*=", "//="):
                self.assertEqual(
                    fault_of(parse, "\n" + words + sign + " = a"), (2, "not a target"), words)
        for words in ("a += b += c", "a += b = c", "a = b += c", "a += ", "a + = b", "+= a",
                      "a mod= b"):
            self.assertEqual(fault_of(parse, words), (1, "invalid syntax"), words)

    def test_line_of_the_end(self):
        self.assertEqual(fault_of(parse, "a = (\n) b"), (2, "invalid syntax"))
        self.assertEqual(fault_of(parse, "a +\nb"), (1, "invalid syntax"))
        self.assertEqual(fault_of(parse, "(a,\nb) = \n"), (2, "invalid syntax"))

    def test_no_statement(self):
        for word in ("elif a:", "else:", "except:", "finally:", "in", "is", "as", "and", "or",
                     "mod", "+", ":", ",", "."):
            self.assertEqual(fault_of(parse, "a\n" + word), (2, "invalid syntax"), word)


class Blocks(unittest.TestCase):
    def test_statements(self):
        self.assertEqual(
            parse("if a:\n b\n\n c\nd"),
            (("if", 1, A, (("do", 2, B), ("do", 4, C)), ()), ("do", 5, D)))

    def test_missing(self):
        for head in ("if a", "while a", "for a in b", "def f()", "class A", "class A(b)", "try"):
            self.assertEqual(fault_of(parse, head + ": b"), (1, "missing block"), head)
            self.assertEqual(fault_of(parse, head + ":\nb"), (2, "missing block"), head)
            self.assertEqual(fault_of(parse, head + ":"), (1, "missing block"), head)
            self.assertEqual(fault_of(parse, head + ":\n"), (2, "missing block"), head)
            self.assertEqual(fault_of(parse, head + ":\n\n # c\n"), (4, "missing block"), head)
            self.assertEqual(fault_of(parse, head), (1, "invalid syntax"), head)
            self.assertEqual(fault_of(parse, head + "\n b"), (1, "invalid syntax"), head)
        for head in ("if a:\n b\nelif c", "if a:\n b\nelse", "try:\n a\nexcept",
                     "try:\n a\nexcept A", "try:\n a\nexcept A as b", "try:\n a\nfinally"):
            self.assertEqual(fault_of(parse, head + ": b"), (3, "missing block"), head)
            self.assertEqual(fault_of(parse, head + ":\nb"), (4, "missing block"), head)
            self.assertEqual(fault_of(parse, head + "\n b"), (3, "invalid syntax"), head)

    def test_missing_at_a_dedent(self):
        self.assertEqual(fault_of(parse, "if a:\n if b:\nc"), (3, "missing block"))

    def test_if(self):
        self.assertEqual(one("if a:\n pass"), ("if", 1, A, PASS2, ()))
        self.assertEqual(
            one("if a:\n pass\nelse:\n b"), ("if", 1, A, PASS2, (("do", 4, B),)))

    def test_elif(self):
        self.assertEqual(
            one("if a:\n pass\nelif b:\n c"),
            ("if", 1, A, PASS2, (("if", 3, B, (("do", 4, C),), ()),)))
        self.assertEqual(
            one("if a:\n pass\nelif b:\n c\nelif d:\n a\nelse:\n b"),
            ("if", 1, A, PASS2, (("if", 3, B, (("do", 4, C),), (
                ("if", 5, D, (("do", 6, A),), (("do", 8, B),)),)),)))

    def test_if_faults(self):
        self.assertEqual(
            fault_of(parse, "if a:\n b\nelse:\n c\nelse:\n d"), (5, "invalid syntax"))
        self.assertEqual(
            fault_of(parse, "if a:\n b\nelse:\n c\nelif d:\n d"), (5, "invalid syntax"))
        for words in ("if a, b:\n c", "if:\n c", "if a = b:\n c", "if a += b:\n c"):
            self.assertEqual(fault_of(parse, words), (1, "invalid syntax"), words)
        self.assertEqual(fault_of(parse, "if a:\n b\nelse c:\n d"), (3, "invalid syntax"))
        self.assertEqual(fault_of(parse, "if a:\n b\nelif:\n d"), (3, "invalid syntax"))

    def test_while(self):
        self.assertEqual(one("while True:\n pass"), ("while", 1, TRUE, PASS2))
        self.assertEqual(fault_of(parse, "while a:\n b\nelse:\n c"), (3, "invalid syntax"))
        self.assertEqual(fault_of(parse, "while a, b:\n c"), (1, "invalid syntax"))

    def test_for(self):
        self.assertEqual(one("for a in b:\n pass"), ("for", 1, A, B, PASS2))
        self.assertEqual(one("for a, in b:\n pass"), ("for", 1, ("tuple", (A,)), B, PASS2))
        self.assertEqual(one("for a, b in c:\n pass"), ("for", 1, ("tuple", (A, B)), C, PASS2))
        self.assertEqual(one("for a, b, in c:\n pass"), ("for", 1, ("tuple", (A, B)), C, PASS2))
        self.assertEqual(one("for (a, b) in c:\n pass"), ("for", 1, ("tuple", (A, B)), C, PASS2))
        self.assertEqual(one("for (a) in c:\n pass"), ("for", 1, A, C, PASS2))
        self.assertEqual(one("for () in c:\n pass"), ("for", 1, ("tuple", ()), C, PASS2))
        self.assertEqual(one("for a.b in c:\n pass"), ("for", 1, ("attr", A, "b"), C, PASS2))
        self.assertEqual(one("for a[b] in c:\n pass"), ("for", 1, ("item", A, B), C, PASS2))
        self.assertEqual(
            one("for a in b, c:\n pass"), ("for", 1, A, ("tuple", (B, C)), PASS2))
        self.assertEqual(
            one("for a in b in c:\n pass"), ("for", 1, A, ("compare", B, (("in", C),)), PASS2))
        self.assertEqual(
            one("for (a, b), c in d:\n pass"),
            ("for", 1, ("tuple", (("tuple", (A, B)), C)), D, PASS2))

    def test_for_targets(self):
        for words in ("1", "a()", "a[b:c]", "a, 1", "1, a", "(a, 1)", "(a + b)", "(a in b)", "[a]",
                      "{}", "1 + a", "a() b", "a, b() + c", "(a, 1), ,"):
            self.assertEqual(
                fault_of(parse, "\nfor " + words + " in b:\n pass"), (2, "not a target"), words)
        for words in ("a + b", "-a", "not a", "a b", "a = b", "a, + b", "", ",", "a,,", "a not",
                      "a if b else c", "a < b", "a, b + c", "a,, 1", "a b, 1"):
            self.assertEqual(
                fault_of(parse, "\nfor " + words + " in b:\n pass"), (2, "invalid syntax"), words)

    def test_for_not_a_target_ahead_of_what_follows(self):
        self.assertEqual(fault_of(parse, "for (\n1\n) b"), (1, "not a target"))
        self.assertEqual(fault_of(parse, "for a, (\n1\n) b"), (1, "not a target"))
        self.assertEqual(fault_of(parse, "for (\na\n) b"), (3, "invalid syntax"))
        self.assertEqual(fault_of(parse, "for a:\n b"), (1, "invalid syntax"))
        self.assertEqual(fault_of(parse, "for a in:\n b"), (1, "invalid syntax"))
        self.assertEqual(fault_of(parse, "for a in b:\n c\nelse:\n d"), (3, "invalid syntax"))

    def test_def(self):
        self.assertEqual(one("def f():\n pass"), ("def", 1, "f", (), PASS2, ()))
        self.assertEqual(one("def f(a):\n pass"), ("def", 1, "f", (("a", ()),), PASS2, ()))
        self.assertEqual(one("def f(a,):\n pass"), ("def", 1, "f", (("a", ()),), PASS2, ()))
        self.assertEqual(
            one("def f(a, b=c if d else a, d=1,):\n pass"),
            ("def", 1, "f", (("a", ()), ("b", ("choice", D, C, A)), ("d", num(1))), PASS2, ()))
        self.assertEqual(
            one("def f(a=b, a):\n pass"),
            ("def", 1, "f", (("a", B), ("a", ())), PASS2, ()))
        for words in ("def:", "def f:", "def (a):", "def f(,):", "def f(a,,):",
                      "def f(a b):", "def f(1):", "def f(a=):", "def f(a=b c):", "def f((a)):",
                      "def f(a.b):", "def f() a:", "def f.g():", "def if():", "def f(if):",
                      "def f(*a):", "def f(a: b):", "def f(a=b=c):", "def 1():"):
            self.assertEqual(fault_of(parse, words + "\n pass"), (1, "invalid syntax"), words)

    def test_many_parameters(self):
        words = "def f({}):\n pass"
        self.assertEqual(len(one(words.replace("{}", "a," * 200))[3]), 200)
        self.assertEqual(
            fault_of(parse, "\n" + words.replace("{}", "a," * 201)), (2, "too many parts"))
        self.assertEqual(
            fault_of(parse, words.replace("{}", "a,\n" * 201)), (1, "too many parts"))

    def test_class(self):
        self.assertEqual(one("class A:\n pass"), ("class", 1, "A", (), PASS2, ()))
        self.assertEqual(one("class A(b):\n pass"), ("class", 1, "A", B, PASS2, ()))
        self.assertEqual(
            one("class A(b.c()):\n pass"),
            ("class", 1, "A", ("call", ("attr", B, "c"), (), ()), PASS2, ()))
        for words in ("class:", "class A():", "class A(b,):", "class A(b, c):", "class (b):",
                      "class A(b=c):", "class A b:", "class 1:", "class A(b) c:", "class if:"):
            self.assertEqual(fault_of(parse, words + "\n pass"), (1, "invalid syntax"), words)

    def test_try(self):
        self.assertEqual(
            one("try:\n pass\nfinally:\n b"), ("try", 1, PASS2, (), (("do", 4, B),)))
        self.assertEqual(
            one("try:\n pass\nexcept:\n b"), ("try", 1, PASS2, ((3, (), "", (("do", 4, B),)),), ()))
        self.assertEqual(
            one("try:\n pass\nexcept a:\n b"),
            ("try", 1, PASS2, ((3, A, "", (("do", 4, B),)),), ()))
        self.assertEqual(
            one("try:\n pass\nexcept a as x:\n b"),
            ("try", 1, PASS2, ((3, A, "x", (("do", 4, B),)),), ()))
        self.assertEqual(
            one("try:\n pass\nexcept a if b else c as x:\n b\nexcept (\n d):\n c\n"
                "except:\n d\nfinally:\n a"),
            ("try", 1, PASS2, (
                (3, ("choice", B, A, C), "x", (("do", 4, B),)), (5, D, "", (("do", 7, C),)),
                (8, (), "", (("do", 9, D),))), (("do", 11, A),)))

    def test_try_faults(self):
        for words in ("try:\n a\n", "try:\n a\nb", "try:\n a\nelse:\n b", "try:\n a\nelif b:\n b",
                      "try:\n a\nexcept a, b:\n c", "try:\n a\nexcept as b:\n c",
                      "try:\n a\nexcept a as:\n c", "try:\n a\nexcept a as 1:\n c",
                      "try:\n a\nexcept a as b.c:\n c", "try:\n a\nexcept a b:\n c",
                      "try:\n a\nexcept a as b, c:\n c", "try:\n a\nfinally a:\n c"):
            self.assertEqual(fault_of(parse, words), (3, "invalid syntax"), words)
        for words in ("finally:\n b", "else:\n b", "except:\n b"):
            self.assertEqual(
                fault_of(parse, "try:\n a\nfinally:\n a\n" + words), (5, "invalid syntax"), words)
        self.assertEqual(
            fault_of(parse, "try:\n a\nexcept:\n a\nelse:\n b"), (5, "invalid syntax"))
        self.assertEqual(fault_of(parse, "try:\n a"), (2, "invalid syntax"))
        self.assertEqual(fault_of(parse, "if b:\n try:\n  a\nb"), (4, "invalid syntax"))

    def test_handler_for_all(self):
        reason = "handler behind a handler for all"
        start = "try:\n a\nexcept:\n b\n"
        for words in ("except:\n c", "except a:\n c", "except 1 1", "except"):
            self.assertEqual(fault_of(parse, start + words), (5, reason), words)
        self.assertEqual(
            fault_of(parse, "try:\n a\nexcept a:\n b\nexcept:\n c\nexcept a:\n d"), (7, reason))
        self.assertEqual(
            fault_of(parse, "try:\n a\nexcept:\n b c\nexcept a:\n d"), (4, "invalid syntax"))

    def test_many_handlers(self):
        handler = "except a:\n b\n"
        self.assertEqual(len(one("try:\n a\n" + handler * 200)[3]), 200)
        self.assertEqual(
            fault_of(parse, "\ntry:\n a\n" + handler * 201), (2, "too many parts"))
        self.assertEqual(
            fault_of(parse, "\ntry:\n a\n" + handler * 200 + "except b b"), (2, "too many parts"))
        self.assertEqual(
            fault_of(parse, "try:\n a\n" + handler * 199 + "except a:\n b c\n" + handler),
            (402, "invalid syntax"))


class Depth(unittest.TestCase):
    def nested(self, head, many, inner="pass"):
        lines = [" " * k + head for k in range(many)]
        return "\n".join(lines + [" " * many + inner])

    def test_twelve_blocks(self):
        for head in ("if a:", "while a:", "for a in b:", "def f():", "class A:"):
            self.assertIsNone(fault_of(parse, self.nested(head, 12)), head)
            self.assertEqual(
                fault_of(parse, self.nested(head, 13)), (14, "too many blocks"), head)
            self.assertEqual(
                fault_of(parse, self.nested(head, 12, "if a:\n" + " " * 13 + "pass")),
                (14, "too many blocks"), head)

    def test_later_statements_of_a_block(self):
        def nested(many):
            rows = []
            for k in range(many):
                rows += [" " * k + "pass", " " * k + "if a:"]
            return "\n".join(rows + [" " * many + "pass"] * 2)
        self.assertIsNone(fault_of(parse, nested(12)))
        self.assertEqual(fault_of(parse, nested(13)), (27, "too many blocks"))

    def test_try(self):
        for tail in ("except:\n", "finally:\n"):
            inner = "try:\n" + " " * 12 + "pass\n" + " " * 11 + tail + " " * 12 + "pass\n"
            self.assertIsNone(fault_of(parse, self.nested("if a:", 11, inner)))
            inner = "try:\n" + " " * 13 + "pass\n" + " " * 12 + tail + " " * 13 + "pass\n"
            self.assertEqual(
                fault_of(parse, self.nested("if a:", 12, inner)), (14, "too many blocks"))

    def test_else(self):
        words = "if a:\n" + " " * 12 + "pass\n" + " " * 11 + "else:\n" + " " * 12
        self.assertIsNone(fault_of(parse, self.nested("if a:", 11, words + "pass")))
        self.assertEqual(
            fault_of(parse, self.nested("if a:", 11, words + "if a:\n" + " " * 13 + "pass")),
            (16, "too many blocks"))

    def test_each_elif_is_one_deeper(self):
        start = "if a:\n pass\n"
        self.assertIsNone(fault_of(parse, start + "elif a:\n pass\n" * 11))
        self.assertIsNone(fault_of(parse, start + "elif a:\n pass\n" * 11 + "else:\n pass\n"))
        self.assertEqual(
            fault_of(parse, start + "elif a:\n pass\n" * 12), (26, "too many blocks"))
        self.assertEqual(
            fault_of(parse, start + "elif a:\n pass\n" * 10 + "elif a:\n if a:\n  pass\n"),
            (25, "too many blocks"))

    def test_else_is_as_deep_as_its_if(self):
        start = "if a:\n pass\n" + "elif a:\n pass\n" * 10
        self.assertIsNone(fault_of(parse, start + "else:\n if a:\n  pass"))
        self.assertEqual(
            fault_of(parse, start + "elif a:\n pass\nelse:\n if a:\n  pass"),
            (27, "too many blocks"))


class Order(unittest.TestCase):
    def test_from_the_first_token_to_the_last(self):
        self.assertEqual(fault_of(parse, "a b\n1 = a"), (1, "invalid syntax"))
        self.assertEqual(fault_of(parse, "1 = a\na b"), (1, "not a target"))
        self.assertEqual(fault_of(parse, "if a:\n 1 = a\nelse b:\n pass"), (2, "not a target"))
        self.assertEqual(fault_of(parse, "def f(a b):\n 1 = a"), (1, "invalid syntax"))
        self.assertEqual(
            fault_of(parse, "def f(" + "a," * 201 + "):\n a b"), (1, "too many parts"))
        self.assertEqual(
            fault_of(parse, "global a" + ",a" * 200 + "\na b"), (1, "too many parts"))

    def test_wrong_character_in_the_last_line(self):
        self.assertEqual(fault_of(parse, "a = (\nb\n%"), (3, "character not allowed"))


if __name__ == "__main__":
    unittest.main()
