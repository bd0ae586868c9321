"""The rules 1 to 6 of h10 told once more, with a list of what is still to be read."""

from pyhold.fields import CONTROLS, OBJECTS
from pyhold.frames import FIELDS

TABLES = {"object": list(OBJECTS.values()), "frame": list(FIELDS.values()), "control": list(CONTROLS.values())}
MOST = {"x": 200, "out": 100000, "here": 30, "text": 1000}


class Wrong(Exception):
    pass


class Reading:
    def __init__(self, numbers):
        self.numbers = numbers
        self.at = 0
        self.agenda = ["mark", "taken", "count", "out", "active", "here", "count", "objects", "control", "frames"]
        self.references = []
        self.counts = {}
        # How many tuples of a tree are open.
        self.around = 0

    def place(self):
        """The place of the first fault by these rules, or None."""
        try:
            while self.agenda:
                self.read(self.agenda.pop(0))
        except Wrong as wrong:
            return wrong.args[0]
        if self.at < len(self.numbers):
            return self.at
        if self.counts["objects"][1] < 17:
            return self.counts["objects"][0]
        for first, k in self.references:
            if k >= self.counts["objects"][1]:
                return first
        if self.counts["taken"][1] > self.counts["out"][1]:
            return 1
        return None

    def number(self):
        if self.at == len(self.numbers):
            raise Wrong(self.at)
        if not 0 <= self.numbers[self.at] <= 255:
            raise Wrong(self.at)
        self.at += 1
        return self.numbers[self.at - 1]

    def count(self):
        digits = [self.number()]
        while digits[-1] >= 128:
            if len(digits) == 40:
                raise Wrong(self.at)
            digits.append(self.number())
            if digits[-1] == 0:
                raise Wrong(self.at - 1)
        return sum((digit & 127) * 128 ** k for k, digit in enumerate(digits))

    def read(self, what):
        first = self.at
        if isinstance(what, tuple):
            self.some(*what)
        elif what == "mark":
            if self.number() != 1:
                raise Wrong(0)
        elif what in ("taken", "objects"):
            self.counts[what] = (first, self.count())
            if what == "objects":
                self.many("object", self.counts[what][1])
        elif what == "count":
            self.count()
        elif what == "active":
            if self.count() > 60:
                raise Wrong(first)
        elif what in MOST:
            size = self.count()
            if size > MOST[what]:
                raise Wrong(first)
            self.counts[what] = (first, size)
            for _ in range(size):
                if self.number() >= 95:
                    raise Wrong(self.at - 1)
        elif what == "frames":
            self.many("frame", self.count())
        elif what in TABLES:
            kind = self.count()
            if kind >= len(TABLES[what]):
                raise Wrong(first)
            self.agenda[:0] = list(TABLES[what][kind])
        else:
            self.field(what, first)

    def many(self, what, size):
        self.agenda.insert(0, (what, size))

    def some(self, what, size):
        """The next of some things of a kind; the others go back to the agenda."""
        if size > 0:
            self.agenda[:0] = list(what if isinstance(what, list) else [what]) + [(what, size - 1)]

    def field(self, letter, first):
        if letter in "ab":
            self.references.append((first, self.count() - (letter == "b")))
        elif letter == "n":
            count = self.count()
            if count // 2 + count % 2 >= 2 ** 256:
                raise Wrong(first)
        elif letter == "v":
            kind = self.number()
            if kind > 8:
                raise Wrong(first)
            self.agenda[:0] = [[], [], [], ["n"], ["text"], ["n", "n"], ["x"], ["x"], ["a"]][kind]
        elif letter == "s":
            kind = self.number()
            if kind > 4:
                raise Wrong(first)
            self.agenda[:0] = [[], [], [], ["v"], ["v"]][kind]
        elif letter == "t":
            self.tree(first)
        elif letter == "close":
            self.around -= 1
        else:
            letters = {"V": ["v"], "W": ["v", "v"], "X": ["x", "v"], "F": ["frame"]}[letter]
            self.many(letters, self.count())

    def tree(self, first):
        kind = self.number()
        if kind > 4 or (kind == 0 and self.around == 200):
            raise Wrong(first)
        if kind == 0:
            self.around += 1
            self.agenda.insert(0, "close")
            self.many("t", self.count())
        elif kind < 3:
            self.agenda.insert(0, "x" if kind == 1 else "n")


def plain_place(numbers):
    return Reading(numbers).place()
