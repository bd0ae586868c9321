"""Reading what was written as numbers, one behind the other."""

from pyhold.core import CHARACTERS, INTEGER_END, MOST_ENTRIES
from pyhold.errors import BadNumbers
from pyhold.fields import CONTROLS, OBJECTS
from pyhold.frames import FIELDS

NUMBER_END = 256
BASE = 128
MOST_DIGITS = 40
MOST_TUPLES_AROUND = 200
MOST_IN_NAME = 200

# The kinds of values and of signals by their numbers.
VALUES = ("none", "bool", "bool", "int", "text", "span", "built", "host", "ref")
SIGNALS = ("", "break", "continue", "return", "raise")

# How many numbers stand for kinds of trees.
TREES = 5


class NumberReader:
    """A list of numbers, and the index of the next one that is read."""

    def __init__(self, numbers, at):
        self.numbers = numbers
        self.at = at
        # The numbers of objects that were read (or -1), each behind the index of its first digit.
        self.references = []

    def read_number(self, end):
        """The next number, which must be less than the end."""
        if self.at >= len(self.numbers):
            raise BadNumbers(len(self.numbers))
        number = self.numbers[self.at]
        if number < 0 or number >= end:
            raise BadNumbers(self.at)
        self.at += 1
        return number

    def read_mark(self, mark):
        """The next number, which must be this one."""
        if self.read_number(NUMBER_END) != mark:
            raise BadNumbers(self.at - 1)

    def read_count(self):
        """A count."""
        count = 0
        for place in range(MOST_DIGITS):
            digit = self.read_number(NUMBER_END)
            if digit == 0 and place > 0:
                raise BadNumbers(self.at - 1)
            count += (digit % BASE) << (7 * place)
            if digit < BASE:
                return count
        # Whatever the next digit is, it is one too many; only the end of the list can come ahead of it.
        return self.read_number(0)

    def read_integer(self):
        """An integer."""
        first = self.at
        count = self.read_count()
        number = count // 2
        if count % 2 == 1:
            number = -number - 1
        if abs(number) >= INTEGER_END:
            raise BadNumbers(first)
        return number

    def read_string(self, most):
        """A string of at most so many characters."""
        size = self.read_count_below(most + 1)
        return "".join([CHARACTERS[self.read_number(len(CHARACTERS))] for _ in range(size)])

    def read_count_below(self, end):
        """A count that must be less than the end."""
        first = self.at
        count = self.read_count()
        if count >= end:
            raise BadNumbers(first)
        return count

    def read_reference(self, shift):
        """The number of an object, which was written as a count that is greater by the shift."""
        first = self.at
        k = self.read_count() - shift
        self.references.append((first, k))
        return k

    def read_value(self):
        """A value."""
        number = self.read_number(len(VALUES))
        kind = VALUES[number]
        if kind == "none":
            return ("none",)
        if kind == "bool":
            return ("bool", number == 2)
        if kind == "int":
            return ("int", self.read_integer())
        if kind == "text":
            return ("text", self.read_string(MOST_ENTRIES))
        if kind == "span":
            low = self.read_integer()
            return ("span", low, self.read_integer())
        if kind == "ref":
            return ("ref", self.read_reference(0))
        return (kind, self.read_string(MOST_IN_NAME))

    def read_tree(self):
        """A tree; the tuples that are not at their ends are kept in a list, the innermost last."""
        around = []
        while True:
            number = self.read_number(TREES)
            if number == 0 and len(around) >= MOST_TUPLES_AROUND:
                raise BadNumbers(self.at - 1)
            many = 0
            if number == 0:
                many = self.read_count()
            if many > 0:
                around.append((many, []))
            else:
                tree = _closed(around, self._read_leaf(number))
                if not around:
                    return tree
                around[-1][1].append(tree)

    def _read_leaf(self, number):
        """A tree without parts, of the kind with this number."""
        if number == 0:
            return ()
        if number == 1:
            return self.read_string(MOST_IN_NAME)
        if number == 2:
            return self.read_integer()
        return number == 4

    def read_object(self):
        """An object."""
        kind = list(OBJECTS)[self.read_count_below(len(OBJECTS))]
        return self._with_fields(kind, OBJECTS[kind])

    def read_frame(self):
        """A frame."""
        kind = list(FIELDS)[self.read_count_below(len(FIELDS))]
        return self._with_fields(kind, FIELDS[kind])

    def read_control(self):
        """A control."""
        kind = list(CONTROLS)[self.read_count_below(len(CONTROLS))]
        return self._with_fields(kind, CONTROLS[kind])

    def _with_fields(self, kind, letters):
        return (kind,) + tuple([self._read_field(letter) for letter in letters])

    def _read_field(self, letter):
        if letter == "v":
            return self.read_value()
        if letter == "t":
            return self.read_tree()
        if letter == "a":
            return self.read_reference(0)
        if letter == "b":
            return self.read_reference(1)
        if letter == "n":
            return self.read_integer()
        if letter == "x":
            return self.read_string(MOST_IN_NAME)
        if letter == "s":
            return self._read_signal()
        many = self.read_count()
        return tuple([self._read_item(letter) for _ in range(many)])

    def _read_item(self, letter):
        """An item of a field that is a tuple."""
        if letter == "V":
            return self.read_value()
        if letter == "F":
            return self.read_frame()
        if letter == "W":
            first = self.read_value()
        else:
            first = self.read_string(MOST_IN_NAME)
        return (first, self.read_value())

    def _read_signal(self):
        kind = SIGNALS[self.read_number(len(SIGNALS))]
        if kind == "":
            return ()
        if kind in ("break", "continue"):
            return (kind,)
        return (kind, self.read_value())


def _closed(around, tree):
    """The outermost tuple whose last part is the tree, or ends with it, or else the tree itself."""
    while around and len(around[-1][1]) + 1 == around[-1][0]:
        _, parts = around.pop()
        tree = tuple(parts + [tree])
    return tree
