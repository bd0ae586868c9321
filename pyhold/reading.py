"""A place in the tokens of a program, from which the parser goes on."""

from pyhold.errors import Fault

BEGINNINGS = ("name", "int", "text")
BEGINNING_WORDS = ("not", "None", "True", "False")
BEGINNING_SIGNS = ("-", "(", "[", "{")


class Reader:
    """Reads tokens one by one, and raises a Fault where another one is due."""

    def __init__(self, tokens):
        self.tokens = tokens
        self.place = 0

    def found_kind(self):
        """The kind of the token that comes."""
        return self.tokens[self.place][0]

    def found_line(self):
        """The line of the token that comes."""
        return self.tokens[self.place][2]

    def take(self):
        """The value of the token that comes, and goes behind it."""
        _, value, _ = self.tokens[self.place]
        self.place += 1
        return value

    def sees(self, value):
        """Tells if this keyword or sign comes."""
        return self._is_mark(self.place, value)

    def skip(self, value):
        """Goes behind this keyword or sign; False if something else comes."""
        if not self.sees(value):
            return False
        self.place += 1
        return True

    def need(self, value):
        """Goes behind this keyword or sign, which is due."""
        if not self.skip(value):
            raise Fault(self.found_line(), "invalid syntax")

    def take_name(self):
        """The name that is due, and goes behind it."""
        if self.found_kind() != "name":
            raise Fault(self.found_line(), "invalid syntax")
        return self.take()

    def end_line(self):
        """Goes behind the end of a line, which is due."""
        if self.found_kind() != "newline":
            raise Fault(self.found_line(), "invalid syntax")
        self.place += 1

    def sees_named(self):
        """Tells if a name with `=` behind it comes, as a named argument begins."""
        return self.found_kind() == "name" and self._is_mark(self.place + 1, "=")

    def sees_expression(self):
        """Tells if a token comes with which an expression can begin."""
        kind, value, _ = self.tokens[self.place]
        if kind == "word":
            return value in BEGINNING_WORDS
        if kind == "sign":
            return value in BEGINNING_SIGNS
        return kind in BEGINNINGS

    def _is_mark(self, place, value):
        kind, found, _ = self.tokens[place]
        return kind in ("word", "sign") and found == value
