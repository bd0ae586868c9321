"""The grammar of expressions and targets: each function reads one form of t5 and t6."""

from pyhold.errors import Fault
from pyhold.trees import NOTHING

COMPARISONS = ("==", "!=", "<", "<=", ">", ">=", "in")

CONSTANTS = {
    "None": ("none",),
    "True": ("bool", True),
    "False": ("bool", False),
}


def row(reader):
    """An expression, or a tuple of expressions separated by commas."""
    made, has_comma = _row_parts(reader)
    if has_comma:
        return ("tuple", made)
    return made[0]


def choice(reader):
    yes = _either(reader)
    if not reader.skip("if"):
        return yes
    test = _either(reader)
    reader.need("else")
    return ("choice", test, yes, _either(reader))


def primary(reader):
    tree = _atom(reader)
    while True:
        if reader.skip("."):
            tree = ("attr", tree, reader.take_name())
        elif reader.skip("("):
            args, named = _arguments(reader)
            tree = ("call", tree, args, named)
        elif reader.skip("["):
            tree = _indexed(reader, tree)
        else:
            return tree


def target(reader, line):
    """A target of a `for` in this line; only a PRIMARY is read there."""
    return checked_target(primary(reader), line)


def checked_target(tree, line):
    """The tree, if it is a target, in a statement that begins in this line."""
    if not _is_target(tree):
        raise Fault(line, "not a target")
    return tree


def _is_target(tree):
    if tree[0] == "tuple":
        return all(_is_target(part) for part in tree[1])
    return tree[0] in ("name", "attr", "item")


def _row_parts(reader):
    made = [choice(reader)]
    has_comma = False
    while reader.skip(","):
        has_comma = True
        if not reader.sees_expression():
            break
        made.append(choice(reader))
    return tuple(made), has_comma


def _either(reader):
    tree = _both(reader)
    while reader.skip("or"):
        tree = ("or", tree, _both(reader))
    return tree


def _both(reader):
    tree = _negation(reader)
    while reader.skip("and"):
        tree = ("and", tree, _negation(reader))
    return tree


def _negation(reader):
    if reader.skip("not"):
        return ("not", _comparison(reader))
    return _comparison(reader)


def _comparison(reader):
    first = _sum(reader)
    pairs = []
    op = _comparing(reader)
    while op != "":
        pairs.append((op, _sum(reader)))
        op = _comparing(reader)
    if not pairs:
        return first
    return ("compare", first, tuple(pairs))


def _comparing(reader):
    """The op of the comparison that comes, or an empty string."""
    for sign in COMPARISONS:
        if reader.skip(sign):
            return sign
    if reader.skip("not"):
        reader.need("in")
        return "notin"
    if reader.skip("is"):
        return "isnot" if reader.skip("not") else "is"
    return ""


def _sum(reader):
    tree = _term(reader)
    while reader.sees("+") or reader.sees("-"):
        op = reader.take()
        tree = ("bin", op, tree, _term(reader))
    return tree


def _term(reader):
    tree = _minus(reader)
    while reader.sees("*") or reader.sees("//") or reader.sees("mod"):
        op = reader.take()
        tree = ("bin", op, tree, _minus(reader))
    return tree


def _minus(reader):
    if reader.skip("-"):
        return ("neg", primary(reader))
    return primary(reader)


def _atom(reader):
    kind = reader.found_kind()
    if kind == "name":
        return ("name", reader.take())
    if kind in ("int", "text"):
        return ("const", (kind, reader.take()))
    for word in CONSTANTS:
        if reader.skip(word):
            return ("const", CONSTANTS[word])
    if reader.skip("("):
        return _bracketed(reader)
    if reader.skip("["):
        return _list(reader)
    if reader.skip("{"):
        return _dict(reader)
    raise Fault(reader.found_line(), "invalid syntax")


def _bracketed(reader):
    if reader.skip(")"):
        return ("tuple", ())
    tree = row(reader)
    reader.need(")")
    return tree


def _list(reader):
    if reader.skip("]"):
        return ("list", ())
    made, _ = _row_parts(reader)
    reader.need("]")
    return ("list", made)


def _dict(reader):
    pairs = []
    while not reader.skip("}"):
        key = choice(reader)
        reader.need(":")
        pairs.append((key, choice(reader)))
        if not reader.sees("}"):
            reader.need(",")
    return ("dict", tuple(pairs))


def _arguments(reader):
    """The arguments of a call by place and by name; the closing bracket is read, too."""
    args = []
    named = []
    while not reader.skip(")"):
        if reader.sees_named():
            named.append(_named_argument(reader, named))
        elif named:
            raise Fault(reader.found_line(), "argument behind a named one")
        else:
            args.append(choice(reader))
        if not reader.sees(")"):
            reader.need(",")
    return tuple(args), tuple(named)


def _named_argument(reader, earlier):
    line = reader.found_line()
    name = reader.take_name()
    if name in [other for other, _ in earlier]:
        raise Fault(line, "argument name twice")
    reader.need("=")
    return (name, choice(reader))


def _indexed(reader, tree):
    """The item or the slice of the tree; the closing bracket is read, too."""
    low = NOTHING
    if not reader.sees(":"):
        low = choice(reader)
        if reader.skip("]"):
            return ("item", tree, low)
    reader.need(":")
    high = NOTHING
    if not reader.sees("]"):
        high = choice(reader)
    reader.need("]")
    return ("part", tree, low, high)
