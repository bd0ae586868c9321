import unittest

from pyhold.compiling import compile_text
from pyhold.parsing import parse
from pyhold.scopes import lower
from tests.helpers import fault_of


class CompileText(unittest.TestCase):
    def test_example(self):
        self.assertEqual(fault_of(compile_text, "a = 1\nbreak"), (2, "break outside a loop"))

    def test_lower_of_parse(self):
        for words in ("", "a = 1\n", "def f(a, b=1):\n    global c\n    c = yield a\n"):
            self.assertEqual(compile_text(words), lower(parse(words)))
        self.assertEqual(compile_text(""), ())

    def test_order_of_the_stages(self):
        for lines, expected in (
                (["break", "1 = a"], (2, "not a target")),
                (["break", "a b"], (2, "invalid syntax")),
                (["break", "a b", "1a"], (3, "invalid integer")),
                (["break", "a b", "1a", "%"], (4, "character not allowed")),
                (["break", "a b", "1a", "%" + " " * 20000], (1, "text too long")),
                (["break", "a" + ".b" * 20], (2, "expression too deep")),
                (["return", "if a:", " if"], (3, "invalid syntax")),
                (["a b", "break"], (1, "invalid syntax")),
                (["a = (", "b", "%"], (3, "character not allowed"))):
            self.assertEqual(fault_of(compile_text, "\n".join(lines)), expected, lines)

    def test_the_earlier_one_of_a_stage(self):
        for lines, expected in (
                (["%", "\t"], (1, "character not allowed")),
                (["1a", ")"], (1, "invalid integer")),
                ([")", "1a"], (1, "unmatched bracket")),
                (["1 = a", "a b"], (1, "not a target")),
                (["a b", "1 = a"], (1, "invalid syntax")),
                (["break", "return"], (1, "break outside a loop")),
                (["return", "break"], (1, "return outside a function"))):
            self.assertEqual(fault_of(compile_text, "\n".join(lines)), expected, lines)


if __name__ == "__main__":
    unittest.main()
