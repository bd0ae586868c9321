"""From the text of a program to its tree."""

from pyhold.errors import Fault
from pyhold.expressions import choice, row, target
from pyhold.lines import line_statement
from pyhold.reading import Reader
from pyhold.trees import MOST_PARTS, bounded, nodes
from pyhold.words import split

MOST_BLOCKS = 12


def parse(text):
    """The program of a text, a tuple of statements."""
    reader = Reader(split(text))
    statements = []
    while reader.found_kind() != "end":
        statements.append(_statement(reader, 0))
    return tuple(statements)


def level(expression):
    """The level of an expression: 1 for a constant or a name, more for what has parts."""
    return max([depth for _, depth in nodes(expression)])


def _statement(reader, depth):
    """A statement that stands in as many blocks as depth tells."""
    line = reader.found_line()
    if depth > MOST_BLOCKS:
        raise Fault(line, "too many blocks")
    for word in BLOCK_STATEMENTS:
        if reader.skip(word):
            action = BLOCK_STATEMENTS[word]
            return action(reader, line, depth)
    return line_statement(reader)


def _block(reader, depth):
    """A block of a statement that stands in as many blocks as depth tells."""
    reader.need(":")
    for kind in ("newline", "indent"):
        if reader.found_kind() != kind:
            raise Fault(reader.found_line(), "missing block")
        reader.take()
    statements = [_statement(reader, depth + 1)]
    while reader.found_kind() != "dedent":
        statements.append(_statement(reader, depth + 1))
    reader.take()
    return tuple(statements)


def _if(reader, line, depth):
    test = bounded(choice(reader), line)
    yes = _block(reader, depth)
    return ("if", line, test, yes, _otherwise(reader, depth))


def _otherwise(reader, depth):
    """The block "no" of an if-statement, which an `elif` or an `else` begins."""
    line = reader.found_line()
    if reader.skip("elif"):
        return (_if(reader, line, depth + 1),)
    if reader.skip("else"):
        return _block(reader, depth)
    return ()


def _while(reader, line, depth):
    test = bounded(choice(reader), line)
    return ("while", line, test, _block(reader, depth))


def _for(reader, line, depth):
    tree = bounded(_targets(reader, line), line)
    reader.need("in")
    rows = bounded(row(reader), line)
    return ("for", line, tree, rows, _block(reader, depth))


def _targets(reader, line):
    first = target(reader, line)
    if not reader.sees(","):
        return first
    targets = [first]
    while reader.skip(",") and not reader.sees("in"):
        targets.append(target(reader, line))
    return ("tuple", tuple(targets))


def _def(reader, line, depth):
    name = reader.take_name()
    params = _parameters(reader, line)
    return ("def", line, name, params, _block(reader, depth), ())


def _parameters(reader, line):
    reader.need("(")
    params = []
    while not reader.skip(")"):
        params.append(_parameter(reader, line))
        if not reader.sees(")"):
            reader.need(",")
    if len(params) > MOST_PARTS:
        raise Fault(line, "too many parts")
    return tuple(params)


def _parameter(reader, line):
    name = reader.take_name()
    if not reader.skip("="):
        return (name, ())
    return (name, bounded(choice(reader), line))


def _class(reader, line, depth):
    name = reader.take_name()
    base = ()
    if reader.skip("("):
        base = bounded(choice(reader), line)
        reader.need(")")
    return ("class", line, name, base, _block(reader, depth), ())


def _try(reader, line, depth):
    block = _block(reader, depth)
    handlers = []
    while reader.sees("except"):
        _check_handlers(handlers, line, reader.found_line())
        handlers.append(_handler(reader, line, depth))
    last = ()
    if reader.skip("finally"):
        last = _block(reader, depth)
    elif not handlers:
        raise Fault(reader.found_line(), "invalid syntax")
    return ("try", line, block, tuple(handlers), last)


def _check_handlers(handlers, line, behind):
    """Raises Fault if no handler may follow, in the line behind, those of a try in the line."""
    if handlers and handlers[-1][1] == ():
        raise Fault(behind, "handler behind a handler for all")
    if len(handlers) == MOST_PARTS:
        raise Fault(line, "too many parts")


def _handler(reader, line, depth):
    own_line = reader.found_line()
    reader.need("except")
    caught = ()
    name = ""
    if not reader.sees(":"):
        caught = bounded(choice(reader), line)
        if reader.skip("as"):
            name = reader.take_name()
    return (own_line, caught, name, _block(reader, depth))


BLOCK_STATEMENTS = {
    "if": _if,
    "while": _while,
    "for": _for,
    "def": _def,
    "class": _class,
    "try": _try,
}
