"""The grammar of the statements of one line."""

from pyhold.errors import Fault
from pyhold.expressions import checked_target, choice, primary, row
from pyhold.trees import MOST_PARTS, NOTHING, bounded

CHANGES = ("+=", "-=", "*=", "//=")


def line_statement(reader):
    """A statement of one line, with the end of its line."""
    line = reader.found_line()
    statement = _statement(reader, line)
    reader.end_line()
    return statement


def _statement(reader, line):
    for word in ("pass", "break", "continue"):
        if reader.skip(word):
            return (word, line)
    for word in ("global", "nonlocal"):
        if reader.skip(word):
            return (word, line, _names(reader, line))
    if reader.skip("return"):
        return ("return", line, _row_or_none(reader, line))
    if reader.skip("yield"):
        return ("yield", line, (), _row_or_none(reader, line))
    if reader.skip("raise"):
        return _raise(reader, line)
    if reader.skip("del"):
        return _drop(reader, line)
    return _row_statement(reader, line)


def _names(reader, line):
    names = [reader.take_name()]
    while reader.skip(","):
        names.append(reader.take_name())
    if len(names) > MOST_PARTS:
        raise Fault(line, "too many parts")
    return tuple(names)


def _row_or_none(reader, line):
    if reader.found_kind() == "newline":
        return NOTHING
    return bounded(row(reader), line)


def _raise(reader, line):
    if reader.found_kind() == "newline":
        return ("raise", line, ())
    return ("raise", line, bounded(choice(reader), line))


def _drop(reader, line):
    tree = primary(reader)
    if tree[0] not in ("name", "item"):
        raise Fault(line, "not a target")
    return ("drop", line, bounded(tree, line))


def _row_statement(reader, line):
    """A statement that begins with a row: what it is shows behind the row."""
    tree = row(reader)
    if reader.skip("="):
        return _store(reader, line, checked_target(tree, line))
    for sign in CHANGES:
        if reader.skip(sign):
            if tree[0] != "name":
                raise Fault(line, "not a target")
            return ("change", line, sign[:-1], tree, bounded(row(reader), line))
    return ("do", line, bounded(tree, line))


def _store(reader, line, tree):
    bounded(tree, line)
    if reader.skip("yield"):
        return ("yield", line, tree, _row_or_none(reader, line))
    return ("set", line, tree, bounded(row(reader), line))
