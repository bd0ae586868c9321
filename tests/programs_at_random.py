"""Texts of random programs, which come to an end.

They keep to what Python and the language of this project have in common, so that Python can be
asked what they do: where Python differs, it is said in `as_python` or the thing is left out.
With `wild` they contain more than that, but no yield."""

import random
import re

NAMES = ("a", "b", "c", "d")
METHODS = {
    "op_add": "__add__", "op_sub": "__sub__", "op_mul": "__mul__", "op_div": "__floordiv__", "op_mod": "__mod__",
    "op_neg": "__neg__", "op_item": "__getitem__", "op_put": "__setitem__", "op_drop": "__delitem__",
    "op_in": "__contains__", "op_iter": "__iter__", "op_next": "__next__", "op_init": "__init__",
    "op_call": "__call__", "op_str": "__str__", "op_hash": "__hash__"}
CAUGHT = ("ZeroDivisionError", "KeyError", "IndexError", "LookupError", "NameError", "TypeError", "ValueError",
          "AttributeError", "StopIteration", "RuntimeError", "ArithmeticError", "Other", "Mine", "Exception")
HEAD = (
    "kept = []\ndef keep(g):\n    kept.append(g)\n    return g\n"
    "class Mine(Exception):\n    pass\nclass Other(Mine):\n    pass\n"
    "def told(name):\n    print('caught', name)\n"
    "def row(v):\n    if isinstance(v, str) or isinstance(v, tuple) or isinstance(v, list):\n        return v\n"
    "    raise TypeError\n")


def as_python(text):
    """The same program for Python. Instances are shown alike, and are no keys there either."""
    for own, python in METHODS.items():
        text = re.sub(rf"\b{own}\b", python, text)
    text = text.replace(" mod ", " % ")
    return text.replace("    #repr\n", "    def __repr__(self):\n        return '<Box object>'\n")


class Writer:
    def __init__(self, seed, yields=True, wild=False):
        self.chance = random.Random(seed)
        self.yields = yields
        self.wild = wild
        self.rows = []
        self.loops = 0
        self.functions = []
        self.generators = []

    def text(self):
        self.rows = [HEAD.rstrip("\n")]
        self.write_class()
        for k in range(self.chance.randint(1, 3)):
            self.write_def(f"f{k}", False)
        if self.yields:
            for k in range(self.chance.randint(1, 3)):
                self.write_def(f"g{k}", True)
        for name in NAMES[:3]:
            self.row(0, name + " = " + self.pick("1", "[3, 'a']", "'ab'", "{0: 1, 'k': 'x'}", "Box(2)", "(1, 2)"))
        for _ in range(self.chance.randint(2, 6)):
            if sum(len(row) for row in self.rows) > 12000:
                break
            self.row(0, "try:")
            self.block(1, 3, False, False, False)
            for name in CAUGHT:
                self.row(0, f"except {name}:")
                self.row(1, f"print('caught here: {name}')")
        return "\n".join(self.rows) + "\n"

    def row(self, depth, text):
        self.rows.append("    " * depth + text)

    def pick(self, *options):
        return self.chance.choice(options)

    def name(self):
        return self.chance.choice(NAMES)

    # Expressions.

    def leaf(self):
        return self.pick(
            self.name(), self.name(), self.name(), str(self.chance.randint(0, 4)), str(self.chance.randint(0, 4)),
            "'x'", "'ab'", "''", "None", "True", "False", "()", "[]", "{}")

    def expression(self, depth):
        if depth <= 0:
            return self.leaf()
        one = self.expression(depth - self.chance.randint(1, 2))
        two = self.expression(depth - self.chance.randint(1, 2))
        kind = self.chance.randint(0, 19)
        if kind <= 4:
            return self.pick(
                f"({one} + {two})", f"({one} - {two})", f"({one} * {self.chance.randint(0, 3)})",
                f"({one} // {two})", f"({one} mod {self.chance.randint(0, 3)})", f"(-({one}))")
        if kind <= 6:
            return self.pick(
                f"({one} == {two})", f"({one} != {two})", f"({one} < {two})", f"({one} <= {two} < 3)",
                f"({one} in {two})", f"({one} not in {two})", f"({one} is None)")
        if kind <= 8:
            return self.pick(
                f"({one} and {two})", f"({one} or {two})", f"(not ({one}))", f"({one} if {two} else {self.leaf()})")
        if kind <= 11:
            return self.pick(
                f"[{one}, {two}]", f"({one}, {two})", f"({one},)", f"{{{one}: {two}}}", f"{{1: {one}, 'x': {two}}}",
                f"[{one}]")
        if kind <= 13:
            return self.pick(
                f"({one})[{two}]", f"({one})[{self.chance.randint(0, 2)}]", f"('abc', {one})[1]", f"[{one}, {two}][1:]",
                f"({one}).n", f"Box({one}).n", "'abcd'[1:3]")
        if kind <= 16:
            return self.call(one, two)
        return self.leaf()

    def call(self, one, two):
        options = [
            f"len({one})", f"str({one})", f"list({one})", f"tuple({one})", f"abs({one})", f"isinstance({one}, int)",
            f"range({one})", f"Box({one})", f"({one}).get({two})", f"list({one}).count({two})", f"({one}).find('a')",
            f"('a b a').split({self.pick('', repr('a'), repr(''))})", f"list(({one}).keys())", "dict()",
            f"next(iter({one}))", f"next(iter({one}), {two})", f"'-'.join([str({one}), 'x'])", f"({one}).copy()",
            f"({one}).pop()", f"({one}).append({two})", f"list({one}).index({two})", f"({one})()", f"repr({one})"]
        for name in self.functions:
            options += [f"{name}({one})", f"{name}({one}, {two})", f"{name}(q={one}, p={two})"] * 3
        for name in self.generators:
            options += [f"list({name}({one}))", f"next(keep({name}({one})), {two})"] * 2
        if self.wild:
            options += [
                f"ask({one})", f"ask({one}, {two})", f"len(Box({one}))", f"(Box({one}) == {two})",
                f"(Box({one}) > {two})", f"int({one})", f"iter({one})", "len", f"({one}).setdefault(1, {two})",
                f"KeyError({one})", f"({one}).append", f"dict({one})", f"(range({one}, 5) == {two})", f"({one} * {two})"] * 2
        return self.chance.choice(options)

    def target(self):
        return self.pick(
            self.name(), self.name(), self.name(), f"{self.name()}[{self.chance.randint(0, 2)}]",
            f"{self.name()}.n", f"{self.name()}['k']")

    def assignment(self, value):
        one, two = self.leaf(), self.leaf()
        if self.wild and self.chance.randint(0, 1):
            return f"({self.target()}, ({self.target()}, {self.target()})) = {value}"
        return self.pick(
            f"{self.target()} = {value}", f"{self.target()} = {value}", f"{self.target()} = {value}",
            f"({self.target()}, {self.target()}) = row({value})",
            f"({self.target()}, ({self.target()}, {self.target()})) = ({one}, ({two}, {value}))",
            f"{self.target()}, ({self.target()},) = ({one}, row({value}))")

    # Statements.

    def block(self, depth, left, in_loop, in_def, in_gen):
        for _ in range(self.chance.randint(1, 3)):
            self.statement(depth, left, in_loop, in_def, in_gen)

    def statement(self, depth, left, in_loop, in_def, in_gen):
        value = self.expression(self.chance.randint(1, 3))
        kind = self.chance.randint(0, 29)
        if in_gen and kind >= 24:
            self.row(depth, self.pick("yield", f"yield {value}", f"{self.name()} = yield {value}"))
        elif left > 0 and kind <= 12:
            self.with_blocks(depth, left - 1, in_loop, in_def, in_gen, value)
        elif in_loop and kind == 13:
            self.row(depth, self.pick("break", "continue"))
        elif in_def and kind <= 15:
            self.row(depth, self.pick("return", f"return {value}"))
        elif kind == 16:
            options = [
                f"raise {self.pick(*CAUGHT)}", f"raise Mine({value})", f"del {self.name()}",
                f"del {self.name()}[0]", "raise Other", f"raise {self.leaf()}"]
            if self.wild:
                options.append("raise")
            self.row(depth, self.chance.choice(options))
        elif kind <= 21:
            self.row(depth, self.assignment(value))
        elif kind == 22 and self.generators:
            self.use_generator(depth)
        elif kind == 23:
            self.row(depth, f"{self.name()} = {self.name()} {self.pick('+', '-', '*')} {self.chance.randint(0, 2)}")
        else:
            self.row(depth, self.pick(f"print({value})", f"print({value}, {self.leaf()})", value))

    def use_generator(self, depth):
        """Uses a generator by a name of its own: Python would take it as a key and for a row."""
        self.row(depth, f"it = keep({self.chance.choice(self.generators)}({self.leaf()}))")
        for _ in range(self.chance.randint(1, 3)):
            self.row(depth, self.pick(
                "print(next(it, 'end'))", f"print(it.send({self.leaf()}))", "it.close()", "print(list(it))",
                "it.send(None)"))

    def with_blocks(self, depth, left, in_loop, in_def, in_gen, value):
        kind = self.pick("if", "while", "for", "for", "try", "try", "try")
        rest = (left, in_loop, in_def, in_gen)
        if kind == "if":
            self.row(depth, f"if {value}:")
            self.block(depth + 1, *rest)
            if self.chance.randint(0, 1):
                self.row(depth, "else:")
                self.block(depth + 1, *rest)
        elif kind == "while":
            self.loops += 1
            self.row(depth, f"n{self.loops} = 0")
            self.row(depth, f"while n{self.loops} < {self.chance.randint(1, 3)}:")
            self.row(depth + 1, f"n{self.loops} += 1")
            self.block(depth + 1, left, True, in_def, in_gen)
        elif kind == "for":
            over = [f"range({self.chance.randint(0, 3)})", f"({self.leaf()}, {self.leaf()})", "Box(2)", value]
            over += [f"keep({name}({self.leaf()}))" for name in self.generators] * 2
            if self.chance.randint(0, 3) == 0:
                self.row(depth, f"for ({self.name()}, {self.target()}) in ((1, {value}), ({self.leaf()}, 2)):")
            else:
                self.row(depth, f"for {self.target()} in {self.chance.choice(over)}:")
            self.block(depth + 1, left, True, in_def, in_gen)
        else:
            self.write_try(depth, rest)

    def write_try(self, depth, rest):
        self.row(depth, "try:")
        self.block(depth + 1, *rest)
        handlers = self.chance.randint(0, 2)
        for _ in range(handlers):
            name = self.pick(*CAUGHT)
            words = f"except {name}" + self.pick("", " as e")
            if self.wild:
                words = self.pick(words, f"except ({name}, {self.leaf()})[0]", f"except {name} as a")
            self.row(depth, words + ":")
            self.row(depth + 1, f"told('{name}')")
            self.block(depth + 1, *rest)
            if self.chance.randint(0, 5) == 0:
                self.row(depth + 1, "raise")
        if handlers == 0 or self.chance.randint(0, 2) == 0:
            self.row(depth, "finally:")
            self.row(depth + 1, "print('last')")
            self.block(depth + 1, *rest)

    def write_def(self, name, is_generator):
        self.row(0, f"def {name}(p, q={self.pick('1', 'None', repr('x'))}):")
        if self.chance.randint(0, 2) == 0:
            self.row(1, f"global {self.name()}")
        self.row(1, f"{self.pick('r', 's')} = (p, q)")
        if is_generator:
            self.row(1, "yield p")
        for _ in range(self.chance.randint(1, 4)):
            self.statement(1, 2, False, True, is_generator)
        if is_generator:
            self.generators.append(name)
        else:
            self.row(1, f"return {self.pick('p', 'q', '(p, q)', 'p + q')}")
            self.functions.append(name)

    def write_class(self):
        self.row(0, "class Box:")
        self.row(1, "op_hash = None")
        self.rows.append("    #repr")
        self.row(1, "def op_init(self, n=1):")
        self.row(2, "self.n = n")
        options = [
            ("op_add(self, o)", "return Box(self.n + o)"), ("op_sub(self, o)", "return self.n - o"),
            ("op_mul(self, o)", "return Box(self.n * 2)"), ("op_div(self, o)", "return o"),
            ("op_mod(self, o)", "return self"), ("op_neg(self)", "return Box(-(self.n))"),
            ("op_put(self, k, v)", "self.n = v"), ("op_drop(self, k)", "self.n = k"),
            ("op_in(self, k)", "return self.n == k"), ("op_call(self)", "return self.n"),
            ("op_str(self)", "return 'Box ' + str(self.n)")]
        if self.wild:
            options += [
                ("op_len(self)", "return self.n"), ("op_eq(self, o)", "return o"), ("op_repr(self)", "return self.n"),
                ("op_gt(self, o)", "return True"), ("op_next(self)", "return self.n"), ("op_iter(self)", "return self.n")]
        chosen = self.chance.sample(options, self.chance.randint(3, len(options)))
        if not self.wild:
            # A class of Python that has but one of these raises another exception for the other.
            chosen = [pair for pair in chosen if "op_put" not in pair[0] and "op_drop" not in pair[0]]
            if self.chance.randint(0, 1):
                chosen += options[6:8]
            # Without this method Python goes over the elements.
            chosen = [pair for pair in chosen if "op_in(" not in pair[0]] + options[8:9]
        for head, body in chosen:
            self.row(1, f"def {head}:")
            if self.chance.randint(0, 3) == 0:
                self.row(2, f"print('{head.split('(')[0][3:]}')")
            self.row(2, body)
        if not self.wild:
            self.row(1, "def op_item(self, k):")
            self.row(2, "return (self.n, k)")
            self.row(1, "def op_iter(self):")
            self.row(2, self.pick("yield self.n" if self.yields else "return iter([self.n])", "return iter((1, self.n))"))
