import unittest

from pyhold.parsing import level, parse
from tests.helpers import FALSE, NONE, TRUE, fault_of, name, num, text

A, B, C, D = name("a"), name("b"), name("c"), name("d")


def tree(words):
    """The tree of an expression that is a statement of its own."""
    (statement,) = parse(words)
    assert statement[:2] == ("do", 1), statement
    return statement[2]


class Atoms(unittest.TestCase):
    def test_atoms(self):
        for words, expected in (
                ("a", A), ("12", num(12)), ("'a'", text("a")), ("None", NONE),
                ("True", TRUE), ("False", FALSE), ("()", ("tuple", ())), ("[]", ("list", ())),
                ("{}", ("dict", ())), ("(a)", A), ("((a))", A),
                ("(a,)", ("tuple", (A,))), ("(a, b)", ("tuple", (A, B))),
                ("(a, b,)", ("tuple", (A, B))), ("[a]", ("list", (A,))),
                ("[a,]", ("list", (A,))), ("[a, b]", ("list", (A, B))),
                ("[(a, b)]", ("list", (("tuple", (A, B)),))), ("[()]", ("list", (("tuple", ()),))),
                ("{a: b}", ("dict", ((A, B),))), ("{a: b,}", ("dict", ((A, B),))),
                ("{a: b, c: d}", ("dict", ((A, B), (C, D)))),
                ("{a if b else c: d}", ("dict", ((("choice", B, A, C), D),)))):
            self.assertEqual(tree(words), expected, words)

    def test_kinds_of_constants(self):
        self.assertIs(tree("True")[1][1], True)
        self.assertIs(tree("False")[1][1], False)
        self.assertIs(type(tree("1")[1][1]), int)

    def test_rows(self):
        self.assertEqual(tree("a, b"), ("tuple", (A, B)))
        self.assertEqual(tree("a,"), ("tuple", (A,)))
        self.assertEqual(tree("a, not b, -c"), ("tuple", (A, ("not", B), ("neg", C))))
        self.assertEqual(tree("1, 'a', None, True, False"), (
            "tuple", (num(1), text("a"), NONE, TRUE, FALSE)))
        self.assertEqual(tree("a, (), [], {}"), (
            "tuple", (A, ("tuple", ()), ("list", ()), ("dict", ()))))

    def test_lines_in_brackets(self):
        self.assertEqual(tree("(a +\n  b)"), ("bin", "+", A, B))


class Grouping(unittest.TestCase):
    def test_choice(self):
        self.assertEqual(tree("a if b else c"), ("choice", B, A, C))
        self.assertEqual(tree("a or b if c or d else b or a"), (
            "choice", ("or", C, D), ("or", A, B), ("or", B, A)))
        self.assertEqual(tree("a if b else (c if d else a)"), (
            "choice", B, A, ("choice", D, C, A)))

    def test_or_and(self):
        self.assertEqual(tree("a or b or c"), ("or", ("or", A, B), C))
        self.assertEqual(tree("a and b and c"), ("and", ("and", A, B), C))
        self.assertEqual(tree("a or b and c"), ("or", A, ("and", B, C)))
        self.assertEqual(tree("a and b or c"), ("or", ("and", A, B), C))
        self.assertEqual(tree("a and (b or c)"), ("and", A, ("or", B, C)))
        self.assertEqual(tree("a or (b or c)"), ("or", A, ("or", B, C)))

    def test_not(self):
        self.assertEqual(tree("not a"), ("not", A))
        self.assertEqual(tree("not (not a)"), ("not", ("not", A)))
        self.assertEqual(tree("not a == b"), ("not", ("compare", A, (("==", B),))))
        self.assertEqual(tree("not a and not b"), ("and", ("not", A), ("not", B)))
        self.assertEqual(tree("(not a) == b"), ("compare", ("not", A), (("==", B),)))

    def test_comparisons(self):
        for sign in ("==", "!=", "<", "<=", ">", ">=", "in", "is"):
            self.assertEqual(tree("a " + sign + " b"), ("compare", A, ((sign, B),)))
        self.assertEqual(tree("a not in b"), ("compare", A, (("notin", B),)))
        self.assertEqual(tree("a is not b"), ("compare", A, (("isnot", B),)))

    def test_all_pairs_are_in_one_tree(self):
        self.assertEqual(tree("a < b is not c not in d in a"), (
            "compare", A, (("<", B), ("isnot", C), ("notin", D), ("in", A))))
        self.assertEqual(tree("(a < b) < c"), (
            "compare", ("compare", A, (("<", B),)), (("<", C),)))
        self.assertEqual(tree("a + b < c - d"), (
            "compare", ("bin", "+", A, B), (("<", ("bin", "-", C, D)),)))

    def test_sums(self):
        self.assertEqual(tree("a - b + c"), ("bin", "+", ("bin", "-", A, B), C))
        self.assertEqual(tree("a - (b + c)"), ("bin", "-", A, ("bin", "+", B, C)))
        self.assertEqual(tree("a + b * c"), ("bin", "+", A, ("bin", "*", B, C)))
        self.assertEqual(tree("a * b + c"), ("bin", "+", ("bin", "*", A, B), C))
        self.assertEqual(tree("(a + b) * c"), ("bin", "*", ("bin", "+", A, B), C))

    def test_terms(self):
        self.assertEqual(tree("a * b // c mod d"), (
            "bin", "mod", ("bin", "//", ("bin", "*", A, B), C), D))
        self.assertEqual(tree("a mod (b * c)"), ("bin", "mod", A, ("bin", "*", B, C)))

    def test_minus(self):
        self.assertEqual(tree("-a"), ("neg", A))
        self.assertEqual(tree("-1"), ("neg", num(1)))
        self.assertEqual(tree("-(-a)"), ("neg", ("neg", A)))
        self.assertEqual(tree("a - -b"), ("bin", "-", A, ("neg", B)))
        self.assertEqual(tree("-a * -b"), ("bin", "*", ("neg", A), ("neg", B)))
        self.assertEqual(tree("-a.b"), ("neg", ("attr", A, "b")))
        self.assertEqual(tree("-a[b](c)"), ("neg", ("call", ("item", A, B), (C,), ())))
        self.assertEqual(tree("(-a).b"), ("attr", ("neg", A), "b"))


class Primaries(unittest.TestCase):
    def test_chains(self):
        self.assertEqual(tree("a.b.c"), ("attr", ("attr", A, "b"), "c"))
        self.assertEqual(tree("a.b(c)[d].e"), (
            "attr", ("item", ("call", ("attr", A, "b"), (C,), ()), D), "e"))
        self.assertEqual(tree("1.a"), ("attr", num(1), "a"))
        self.assertEqual(tree("'a'.b"), ("attr", text("a"), "b"))
        self.assertEqual(tree("(a, b)[c]"), ("item", ("tuple", (A, B)), C))
        self.assertEqual(tree("a()()"), ("call", ("call", A, (), ()), (), ()))

    def test_arguments(self):
        self.assertEqual(tree("a()"), ("call", A, (), ()))
        self.assertEqual(tree("a(b)"), ("call", A, (B,), ()))
        self.assertEqual(tree("a(b,)"), ("call", A, (B,), ()))
        self.assertEqual(tree("a(b, c)"), ("call", A, (B, C), ()))
        self.assertEqual(tree("a(b=c)"), ("call", A, (), (("b", C),)))
        self.assertEqual(tree("a(b=c,)"), ("call", A, (), (("b", C),)))
        self.assertEqual(tree("a(b, c=d, d=c)"), ("call", A, (B,), (("c", D), ("d", C))))
        self.assertEqual(tree("a(b, b=b)"), ("call", A, (B,), (("b", B),)))
        self.assertEqual(tree("a(b == c)"), ("call", A, (("compare", B, (("==", C),)),), ()))
        self.assertEqual(tree("a(b=c if d else a)"), ("call", A, (), (("b", ("choice", D, C, A)),)))

    def test_indexes(self):
        self.assertEqual(tree("a[b]"), ("item", A, B))
        self.assertEqual(tree("a[(b, c)]"), ("item", A, ("tuple", (B, C))))
        self.assertEqual(tree("a[:]"), ("part", A, NONE, NONE))
        self.assertEqual(tree("a[b:]"), ("part", A, B, NONE))
        self.assertEqual(tree("a[:b]"), ("part", A, NONE, B))
        self.assertEqual(tree("a[b:c]"), ("part", A, B, C))
        self.assertEqual(tree("a[None:c]"), ("part", A, NONE, C))
        self.assertEqual(tree("a[b if c else d:-a]"), ("part", A, ("choice", C, B, D), ("neg", A)))


class Faults(unittest.TestCase):
    def test_invalid_syntax(self):
        for words in (
                "a b", "a 1", "'a' 'b'", "'a''b'", "1 a", "not not a", "- - a", "--a", "-not a",
                "a == not b", "a not b", "a not not in b", "a is not not b", "a is is b",
                "a if b", "a if b else", "a if b else c if d else a", "a if b if c else d else a",
                "a else b", "if a", "a +", "+ a", "* a", "a + * b", "a // ", "a mod", "mod a",
                "a or", "or a", "a and or b", "a in", "in a", "a < > b", "a == = b", "a . 1",
                "a.", "a.if", "a.'b'", "a.(b)", ".a", "(,)", "(a b)", "(a,, b)", "(a, , )",
                "[,]", "[a b]", "[a,,]", "[a:b]", "{,}", "{a}", "{a, b}", "{a:}", "{:a}",
                "{a: b c: d}", "{a: b,, c: d}", "{a: b, c}", "a[]", "a[,]", "a[b, c]", "a[b c]",
                "a[b:c:d]", "a[::]", "a[b:c d]", "a[b,]", "a(,)", "a(b c)", "a(b,, c)", "a(1=b)",
                "a((b)=c)", "a(b.c=d)", "a(b=)", "a(=b)", "a(b=c d)", "a(b=c=d)", "a(*b)",
                "a(b for b in c)", "[a for a in b]", "(yield)", "a(yield)", "lambda a: a",
                ", a", "a, , b", ",", ":", "a:", "=", "(a = b)", "[a = b]", "a(not = b)"):
            self.assertEqual(fault_of(parse, "\n" + words), (2, "invalid syntax"), words)

    def test_line_of_the_first_wrong_token(self):
        self.assertEqual(fault_of(parse, "(a\nb\nc)"), (2, "invalid syntax"))
        self.assertEqual(fault_of(parse, "(a\nnot\nb)"), (3, "invalid syntax"))
        self.assertEqual(fault_of(parse, "(a\nis\nnot\nnot b)"), (4, "invalid syntax"))
        self.assertEqual(fault_of(parse, "(a\nif b\n)"), (3, "invalid syntax"))
        self.assertEqual(fault_of(parse, "a(b\n=c\n=\nd)"), (3, "invalid syntax"))
        self.assertEqual(fault_of(parse, "a(1\n=c)"), (2, "invalid syntax"))
        self.assertEqual(fault_of(parse, "a[b:\nc\n:\nd]"), (3, "invalid syntax"))
        self.assertEqual(fault_of(parse, "a + (\nb) c"), (2, "invalid syntax"))
        self.assertEqual(fault_of(parse, "a.(\nb)"), (1, "invalid syntax"))
        self.assertEqual(fault_of(parse, "{a\n}"), (2, "invalid syntax"))
        self.assertEqual(fault_of(parse, "(\n)+"), (2, "invalid syntax"))

    def test_argument_behind_a_named_one(self):
        reason = "argument behind a named one"
        for words in ("a(b=c,\nd)", "a(b=c,\n(d)=c)", "a(b=c,\n1)", "a(b=c,\n,)", "a(b=c,\n=)",
                      "a(b=c,\n*)", "a(b=c,\nif)", "a(b=c,\nd.e=1)", "a(b=c,\nb)", "a(b=c,\n:\n)",
                      "a(c, b=c,\nd == c)", "a(b=c,\n[d e])", "a(b=c, d=c,\nd\n==c)"):
            self.assertEqual(fault_of(parse, words), (2, reason), words)

    def test_argument_name_twice(self):
        reason = "argument name twice"
        self.assertEqual(fault_of(parse, "a(b=c,\nb=d)"), (2, reason))
        self.assertEqual(fault_of(parse, "a(b=c, c=d,\nb\n=\n= 1)"), (2, reason))
        self.assertEqual(fault_of(parse, "a(b=c, b=)"), (1, reason))
        self.assertEqual(fault_of(parse, "a(b=c, c=a(b=c), d=c)"), None)
        self.assertEqual(fault_of(parse, "a(b=c, b=d, e)"), (1, reason))
        self.assertEqual(fault_of(parse, "a(b=c, e, b=d)"), (1, "argument behind a named one"))


class Levels(unittest.TestCase):
    def test_level(self):
        for words, expected in (
                ("a", 1), ("1", 1), ("'a'", 1), ("None", 1), ("()", 1), ("[]", 1), ("{}", 1),
                ("(a)", 1), ("-a", 2), ("not a", 2), ("a + b", 2), ("a + b * 2", 3),
                ("a + b + c", 3), ("a or b", 2), ("a and b", 2), ("a < b < c", 2),
                ("a if b else c", 2), ("a()", 2), ("a.b", 2), ("a.b.c", 3), ("a[b]", 2),
                ("a[:]", 2), ("a[-b:]", 3), ("a[:-b]", 3), ("(-a)[b:]", 3), ("a[-b]", 3),
                ("(a,)", 2), ("[a, -b]", 3), ("{a: b}", 2), ("{-a: b}", 3), ("{a: -b}", 3),
                ("a(-b)", 3), ("a(c=-b)", 3), ("(-a)()", 3), ("a < -b", 3), ("-a < b", 3),
                ("-a if b else c", 3), ("a if -b else c", 3), ("a if b else -c", 3),
                ("a + -b", 3), ("-a + b", 3), ("a and (not b)", 3), ("not (not a)", 3),
                ("a or (not b)", 3), ("((a,),)", 3), ("a < b < -c", 3), ("(-a).b", 3)):
            self.assertEqual(level(tree(words)), expected, words)

    def test_twenty(self):
        self.assertEqual(level(tree("a" + " + a" * 19)), 20)
        self.assertEqual(level(tree("a" + ".b" * 19)), 20)
        self.assertEqual(level(tree("(" * 19 + "a" + ",)" * 19)), 20)
        self.assertEqual(level(tree("[" * 20 + "]" * 20)), 20)

    def test_too_deep(self):
        reason = "expression too deep"
        for words in ("a" + " + a" * 20, "a" + " or a" * 20, "a" + " and a" * 20,
                      "a" + " mod a" * 20, "a" + ".b" * 20, "a" + "[0]" * 20, "a" + "()" * 20,
                      "a" + "[:]" * 20, "-(" * 20 + "a" + ")" * 20, "not (" * 20 + "a" + ")" * 20,
                      "[" * 20 + "a" + "]" * 20, "a" + "." + "b.b" * 4000, "a" + "+a" * 9999):
            self.assertEqual(fault_of(parse, "\n" + words), (2, reason), words[:20])

    def test_in_every_statement(self):
        deep = "a" + ".b" * 20
        fits = "a" + ".b" * 19
        for words in ("a = {}", "{} = a", "a += {}", "del {}[b]", "yield {}", "a = yield {}",
                      "{} = yield a", "return {}", "raise {}", "if {}:\n pass", "while {}:\n pass",
                      "if a:\n pass\nelif {}:\n pass", "for a in {}:\n pass",
                      "for {} in a:\n pass", "def f(a={}):\n pass", "class A({}):\n pass",
                      "try:\n pass\nexcept {}:\n pass", "a, b = c, {}"):
            line = 3 if "elif" in words else 1
            self.assertEqual(
                fault_of(parse, words.replace("{}", deep)), (line, "expression too deep"), words)
            if "[b]" in words or "b =" in words:
                continue
            self.assertIsNone(fault_of(parse, words.replace("{}", fits)), words)

    def test_a_target_is_an_expression(self):
        self.assertIsNone(fault_of(parse, "a" + ".b" * 18 + ", b = c"))
        self.assertEqual(
            fault_of(parse, "a" + ".b" * 19 + ", b = c"), (1, "expression too deep"))
        self.assertIsNone(fault_of(parse, "for a" + ".b" * 18 + ", b in c:\n pass"))
        self.assertEqual(
            fault_of(parse, "for a" + ".b" * 19 + ", b in c:\n pass"), (1, "expression too deep"))
        self.assertIsNone(fault_of(parse, "del a" + ".b" * 18 + "[b]"))

    def test_line_of_the_statement(self):
        deep = "a" + ".b" * 20
        self.assertEqual(fault_of(parse, "\nf(a,\n" + deep + ")"), (2, "expression too deep"))
        self.assertEqual(
            fault_of(parse, "\ntry:\n pass\nexcept A:\n pass\nexcept " + deep + ":\n pass"),
            (2, "expression too deep"))
        self.assertEqual(fault_of(parse, "if a:\n  " + deep), (2, "expression too deep"))

    def test_ahead_of_what_follows(self):
        deep = "a" + ".b" * 20
        self.assertEqual(fault_of(parse, deep + "\n)"), (2, "unmatched bracket"))
        self.assertEqual(fault_of(parse, deep + "\na b"), (1, "expression too deep"))
        self.assertEqual(fault_of(parse, "a b\n" + deep), (1, "invalid syntax"))
        self.assertEqual(fault_of(parse, "if " + deep + ":\n  a b"), (1, "expression too deep"))


class Parts(unittest.TestCase):
    def check(self, words, piece, many=200):
        """{} is many pieces, which is allowed, or one more."""
        self.assertIsNone(fault_of(parse, words.replace("{}", piece * many)), words)
        self.assertEqual(
            fault_of(parse, "\n" + words.replace("{}", piece * (many + 1))),
            (2, "too many parts"), words)

    def test_displays(self):
        self.check("({})", "a,")
        self.check("{}", "a,")
        self.check("[{}]", "a,")
        self.check("{{}}", "a:b,")
        self.check("a = {}", "a,")
        self.check("return {}", "a,")
        self.check("[({})]", "a,")

    def test_arguments(self):
        self.check("a({})", "a,")
        names = "".join("a%d=b," % k for k in range(100))
        self.assertIsNone(fault_of(parse, "a(" + "a," * 100 + names + ")"))
        self.assertEqual(
            fault_of(parse, "\na(" + "a," * 101 + names + ")"), (2, "too many parts"))

    def check_named(self, count):
        names = "".join("a%d=b," % k for k in range(count))
        return fault_of(parse, "a(" + names + ")")

    def test_named_arguments(self):
        self.assertIsNone(self.check_named(200))
        self.assertEqual(self.check_named(201), (1, "too many parts"))

    def test_comparisons(self):
        self.check("a{}", "<b")

    def test_targets(self):
        self.check("{} = a", "a,")
        self.check("({}) = a", "a,")
        self.check("b, ({}) = a", "a,")
        self.check("for {} in a:\n pass", "a,")
        self.check("{} = yield", "a,")

    def test_line_of_the_statement(self):
        words = "if a:\n b = (a,\n [{}])"
        self.assertIsNone(fault_of(parse, words.replace("{}", "a," * 200)))
        self.assertEqual(
            fault_of(parse, words.replace("{}", "a," * 201)), (2, "too many parts"))


if __name__ == "__main__":
    unittest.main()
