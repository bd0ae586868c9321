import unittest

from pyhold.core import CHARACTERS
from pyhold.words import is_name, quoted, split
from tests.helpers import fault_of

KEYWORDS = (
    "False None True and as break class continue def del elif else except finally for "
    "global if in is mod nonlocal not or pass raise return try while yield").split()

SIGNS = "//= // <= >= == != += -= *= + - * < > = , : .".split()


def kinds(text):
    return [kind for kind, _, _ in split(text)]


def marks(text):
    """The tokens of one line as pairs, without its end."""
    return [(kind, value) for kind, value, _ in split(text)[:-2]]


class Names(unittest.TestCase):
    def test_each_text(self):
        for word in ("a", "_", "a1", "_1", "A_b", "x" * 30, "print", "True_", "ifs"):
            self.assertIs(is_name(word), True)
            self.assertEqual(marks(word), [("name", word)])
        for word in KEYWORDS + ["", "1", "1a", "a b", "a-b", " a", "a ", "a.b", "x" * 31, "\u00e9", "a\u00e9", "\u0661", "a\n"]:
            self.assertIs(is_name(word), False, word)


class Characters(unittest.TestCase):
    def test_length(self):
        self.assertEqual(split(" " * 20000), [("end", "", 1)])
        self.assertEqual(split("\n" * 20000), [("end", "", 20001)])
        self.assertEqual(fault_of(split, " " * 20001), (1, "text too long"))
        self.assertEqual(fault_of(split, "\n" * 20001), (1, "text too long"))

    def test_length_comes_first(self):
        self.assertEqual(fault_of(split, "\t" * 20001), (1, "text too long"))
        self.assertEqual(fault_of(split, ")\n" + " " * 20000), (1, "text too long"))

    def test_all_characters_in_a_comment(self):
        self.assertEqual(split("#" + CHARACTERS[1:]), [("end", "", 1)])

    def test_other_characters(self):
        for code in list(range(10)) + list(range(11, 32)) + [37, 127, 128, 133, 233, 8232]:
            self.assertEqual(
                fault_of(split, "a\n#" + chr(code)), (2, "character not allowed"), code)
            self.assertEqual(
                fault_of(split, "'" + chr(code) + "'"), (1, "character not allowed"), code)

    def test_first_wrong_character(self):
        self.assertEqual(fault_of(split, "\n\n\t\n%"), (3, "character not allowed"))

    def test_characters_come_ahead_of_tokens(self):
        self.assertEqual(fault_of(split, "(\n1a\n%"), (3, "character not allowed"))
        self.assertEqual(fault_of(split, "a = )\n'\t'"), (2, "character not allowed"))


class Lines(unittest.TestCase):
    def test_empty(self):
        self.assertEqual(split(""), [("end", "", 1)])
        self.assertEqual(split("\n"), [("end", "", 2)])
        self.assertEqual(split("   "), [("end", "", 1)])
        self.assertEqual(split("\n  # a\n\n  "), [("end", "", 4)])

    def test_newline_also_without_one(self):
        self.assertEqual(split("a"), [("name", "a", 1), ("newline", "", 1), ("end", "", 1)])
        self.assertEqual(split("a\n"), [("name", "a", 1), ("newline", "", 1), ("end", "", 2)])

    def test_comments(self):
        self.assertEqual(split("a#b\nc # d\n#e"), [
            ("name", "a", 1), ("newline", "", 1), ("name", "c", 2), ("newline", "", 2),
            ("end", "", 3)])

    def test_no_comment_in_a_text(self):
        self.assertEqual(marks("'#' # '"), [("text", "#")])

    def test_example(self):
        self.assertEqual(split("if x:\n  y = 'a'\n"), [
            ("word", "if", 1), ("name", "x", 1), ("sign", ":", 1), ("newline", "", 1),
            ("indent", "", 2), ("name", "y", 2), ("sign", "=", 2), ("text", "a", 2),
            ("newline", "", 2), ("dedent", "", 3), ("end", "", 3)])

    def test_spaces(self):
        self.assertEqual(marks("a  b"), [("name", "a"), ("name", "b")])
        self.assertEqual(marks("a+b"), marks("a  +  b  "))
        self.assertEqual(marks("1 2"), [("int", 1), ("int", 2)])


class Indentations(unittest.TestCase):
    def test_first_line(self):
        self.assertEqual(kinds(" a"), ["indent", "name", "newline", "dedent", "end"])

    def test_in_and_out(self):
        self.assertEqual(split("a\n b\n   c\n d\ne"), [
            ("name", "a", 1), ("newline", "", 1),
            ("indent", "", 2), ("name", "b", 2), ("newline", "", 2),
            ("indent", "", 3), ("name", "c", 3), ("newline", "", 3),
            ("dedent", "", 4), ("name", "d", 4), ("newline", "", 4),
            ("dedent", "", 5), ("name", "e", 5), ("newline", "", 5), ("end", "", 5)])

    def test_several_at_once(self):
        self.assertEqual(split("a\n b\n  c\nd")[-5:], [
            ("dedent", "", 4), ("dedent", "", 4), ("name", "d", 4), ("newline", "", 4),
            ("end", "", 4)])

    def test_the_same(self):
        self.assertEqual(kinds(" a\n b"), [
            "indent", "name", "newline", "name", "newline", "dedent", "end"])

    def test_dedents_at_the_end(self):
        self.assertEqual(split("a\n b\n  c")[-3:], [
            ("dedent", "", 3), ("dedent", "", 3), ("end", "", 3)])
        self.assertEqual(split("a\n b\n  c\n\n # d\n")[-3:], [
            ("dedent", "", 6), ("dedent", "", 6), ("end", "", 6)])

    def test_blank_lines_mean_nothing(self):
        self.assertEqual(kinds("a\n  b\n\n#c\n      #d\n      \n  e"), [
            "name", "newline", "indent", "name", "newline", "name", "newline", "dedent", "end"])

    def test_unmatched(self):
        self.assertEqual(fault_of(split, "a\n  b\n c"), (3, "unmatched indentation"))
        self.assertEqual(fault_of(split, "a\n  b\n    c\n   d"), (4, "unmatched indentation"))
        self.assertEqual(fault_of(split, "  b\n 1a"), (2, "unmatched indentation"))

    def test_ahead_of_the_tokens_of_the_line(self):
        self.assertEqual(fault_of(split, "1a\n  b\n c"), (1, "invalid integer"))


class Brackets(unittest.TestCase):
    def test_lines_in_brackets(self):
        self.assertEqual(split("a(\n      b\n\n # c\n , d)\ne"), [
            ("name", "a", 1), ("sign", "(", 1), ("name", "b", 2), ("sign", ",", 5),
            ("name", "d", 5), ("sign", ")", 5), ("newline", "", 5), ("name", "e", 6),
            ("newline", "", 6), ("end", "", 6)])

    def test_all_kinds(self):
        for text in ("(\n)", "[\n]", "{\n}"):
            self.assertEqual(kinds(text), ["sign", "sign", "newline", "end"])

    def test_indentation_behind_brackets(self):
        self.assertEqual(kinds(" (\n)\n a"), [
            "indent", "sign", "sign", "newline", "name", "newline", "dedent", "end"])

    def test_twenty(self):
        self.assertEqual(len(split("(" * 20 + ")" * 20)), 42)
        self.assertEqual(fault_of(split, "(" * 20 + "\n["), (2, "too many brackets"))
        self.assertEqual(fault_of(split, "([{" * 7 + "1a"), (1, "too many brackets"))
        self.assertIsNone(fault_of(split, "()" * 30))

    def test_unmatched(self):
        for text in (")", "]", "}", "(]", "[)", "{]", "([)]", "())", "(}"):
            self.assertEqual(fault_of(split, "\n" + text), (2, "unmatched bracket"), text)

    def test_not_closed(self):
        self.assertEqual(fault_of(split, "(\n[\n{\n}\n"), (2, "bracket not closed"))
        self.assertEqual(fault_of(split, "(\n[\n]\n"), (1, "bracket not closed"))
        self.assertEqual(fault_of(split, "\n{"), (2, "bracket not closed"))
        self.assertEqual(fault_of(split, "(\n1a"), (2, "invalid integer"))

    def test_brackets_in_texts_and_comments(self):
        self.assertEqual(kinds("'(' # ("), ["text", "newline", "end"])


class Names(unittest.TestCase):
    def test_names(self):
        for word in ("a", "_", "A9_z", "__x__", "lambda", "none", "If", "modulo", "in_", "_if"):
            self.assertEqual(marks(word), [("name", word)])

    def test_keywords(self):
        for word in KEYWORDS:
            self.assertEqual(marks(word), [("word", word)])
        self.assertEqual(len(KEYWORDS), 29)

    def test_length(self):
        self.assertEqual(marks("a" * 30), [("name", "a" * 30)])
        self.assertEqual(fault_of(split, "\n" + "a" * 31), (2, "name too long"))

    def test_letters_end_a_name(self):
        self.assertEqual(marks("a.b"), [("name", "a"), ("sign", "."), ("name", "b")])
        self.assertEqual(marks("a'b'"), [("name", "a"), ("text", "b")])


class Integers(unittest.TestCase):
    def test_integers(self):
        for n in (0, 1, 9, 10, 907, 2 ** 256 - 1):
            self.assertEqual(marks(str(n)), [("int", n)])

    def test_invalid(self):
        for text in ("00", "007", "01", "1a", "1_000", "0x1", "1e5", "9_", "0" * 100, "0_", "5a" * 60):
            self.assertEqual(fault_of(split, "\n" + text), (2, "invalid integer"), text)

    def test_too_large(self):
        self.assertEqual(fault_of(split, str(2 ** 256)), (1, "integer too large"))
        self.assertEqual(fault_of(split, "\n" + str(2 ** 256 + 7)), (2, "integer too large"))
        self.assertEqual(fault_of(split, "1" + "0" * 78), (1, "integer too large"))
        self.assertEqual(fault_of(split, "9" * 20000), (1, "integer too large"))
        self.assertEqual(fault_of(split, "9" * 19999 + "a"), (1, "invalid integer"))

    def test_a_point_ends_it(self):
        self.assertEqual(marks("1.5"), [("int", 1), ("sign", "."), ("int", 5)])
        self.assertEqual(marks("-1"), [("sign", "-"), ("int", 1)])


class Texts(unittest.TestCase):
    def test_quotes(self):
        self.assertEqual(marks("'a'"), [("text", "a")])
        self.assertEqual(marks('"a"'), [("text", "a")])
        self.assertEqual(marks('""'), [("text", "")])
        self.assertEqual(marks("''"), [("text", "")])
        self.assertEqual(marks("'\"'"), [("text", '"')])
        self.assertEqual(marks('"\'"'), [("text", "'")])

    def test_two_side_by_side(self):
        self.assertEqual(marks("'a''b'"), [("text", "a"), ("text", "b")])
        self.assertEqual(marks("''" + '"b"'), [("text", ""), ("text", "b")])

    def test_escapes(self):
        self.assertEqual(marks(r"'\\ \" \' \n'"), [("text", "\\ \" ' \n")])
        self.assertEqual(marks(r'"\\ \" \' \n"'), [("text", "\\ \" ' \n")])
        self.assertEqual(marks(r"'\\'"), [("text", "\\")])
        self.assertEqual(marks(r"'\\n'"), [("text", "\\n")])

    def test_invalid_escapes(self):
        for character in CHARACTERS[1:]:
            if character not in "\\\"'n":
                self.assertEqual(
                    fault_of(split, "\n'\\" + character + "'"), (2, "invalid escape"))

    def test_not_closed(self):
        for text in ("'", "'a", '"a', "'a\"", '"a\'', "'a\\", "'\\'", "'\\", "'a\\\\", '"\\"'):
            self.assertEqual(fault_of(split, "\n" + text), (2, "text not closed"), text)
            self.assertEqual(fault_of(split, "\n" + text + "\n'"), (2, "text not closed"), text)

    def test_not_closed_in_brackets(self):
        self.assertEqual(fault_of(split, "('a\n')"), (1, "text not closed"))

    def test_length(self):
        self.assertEqual(marks("'" + "a" * 200 + "'"), [("text", "a" * 200)])
        self.assertEqual(marks("'" + "\\n" * 200 + "'"), [("text", "\n" * 200)])
        self.assertEqual(fault_of(split, "\n'" + "a" * 201 + "'"), (2, "text too long"))
        self.assertEqual(fault_of(split, "'" + "\\n" * 201 + "'"), (1, "text too long"))

    def test_length_is_looked_at_last(self):
        self.assertEqual(fault_of(split, "'" + "a" * 201 + "\\q'"), (1, "invalid escape"))
        self.assertEqual(fault_of(split, "'" + "a" * 201), (1, "text not closed"))
        self.assertEqual(fault_of(split, "'" + "a" * 201 + "\\"), (1, "text not closed"))
        self.assertEqual(fault_of(split, "'" + "a" * 201 + "' 1a"), (1, "text too long"))


class Signs(unittest.TestCase):
    def test_signs(self):
        for sign in SIGNS:
            self.assertEqual(marks(sign), [("sign", sign)])

    def test_the_longest_one(self):
        self.assertEqual(marks("//=="), [("sign", "//="), ("sign", "=")])
        self.assertEqual(marks("<=="), [("sign", "<="), ("sign", "=")])
        self.assertEqual(marks("==="), [("sign", "=="), ("sign", "=")])
        self.assertEqual(marks("= ="), [("sign", "="), ("sign", "=")])
        self.assertEqual(marks("***="), [("sign", "*"), ("sign", "*"), ("sign", "*=")])
        self.assertEqual(marks("a<-1"), [
            ("name", "a"), ("sign", "<"), ("sign", "-"), ("int", 1)])
        self.assertEqual(marks("////="), [("sign", "//"), ("sign", "//=")])

    def test_unexpected(self):
        for sign in ("/", "!", ";", "@", "&", "|", "~", "^", "?", "$", "`", "\\", "/=", "! ="):
            self.assertEqual(fault_of(split, "\na " + sign), (2, "unexpected sign"), sign)

    def test_first_fault(self):
        self.assertEqual(fault_of(split, "a ; 1a"), (1, "unexpected sign"))
        self.assertEqual(fault_of(split, "1a ;"), (1, "invalid integer"))
        self.assertEqual(fault_of(split, "a\n;\n)"), (2, "unexpected sign"))


class Quoted(unittest.TestCase):
    def test_quoted(self):
        self.assertEqual(quoted('a"b'), '"a\\"b"')
        self.assertEqual(quoted(""), '""')
        self.assertEqual(quoted("it's"), '"it\'s"')
        self.assertEqual(quoted("\\"), '"\\\\"')
        self.assertEqual(quoted("\n"), '"\\n"')
        self.assertEqual(quoted("\\n\n\""), '"\\\\n\\n\\""')

    def test_split_reads_it_back(self):
        self.assertEqual(marks(quoted(CHARACTERS)), [("text", CHARACTERS)])


if __name__ == "__main__":
    unittest.main()
