"""Trees of expressions and statements: what they are made of, and their bounds."""

from pyhold.errors import Fault

NOTHING = ("const", ("none",))

MOST_LEVELS = 20
MOST_PARTS = 200


def parts(tree):
    """The expressions of which an expression, or a target, is directly made."""
    kind = tree[0]
    if kind in ("const", "name"):
        return ()
    if kind in ("neg", "not", "attr"):
        return (tree[1],)
    if kind in ("and", "or", "choice", "item", "part"):
        return tree[1:]
    if kind == "bin":
        return tree[2:]
    if kind in ("tuple", "list"):
        return tree[1]
    if kind == "dict":
        return tuple([part for pair in tree[1] for part in pair])
    if kind == "compare":
        return (tree[1],) + tuple([part for _, part in tree[2]])
    return (tree[1],) + tree[2] + tuple([part for _, part in tree[3]])


def nodes(tree):
    """The pairs of each expression in an expression, itself too, and its depth in it, from 1."""
    found = []
    waiting = [(tree, 1)]
    while waiting:
        part, depth = waiting.pop()
        found.append((part, depth))
        waiting.extend([(inner, depth + 1) for inner in parts(part)])
    return found


def width(tree):
    """The number of those parts of an expression of which there may be MOST_PARTS."""
    if tree[0] in ("tuple", "list", "dict"):
        return len(tree[1])
    if tree[0] == "compare":
        return len(tree[2])
    if tree[0] == "call":
        return len(tree[2]) + len(tree[3])
    return 0


def bounded(tree, line):
    """The expression of a statement that begins in this line, if it keeps to the bounds."""
    for part, depth in nodes(tree):
        if depth > MOST_LEVELS:
            raise Fault(line, "expression too deep")
        if width(part) > MOST_PARTS:
            raise Fault(line, "too many parts")
    return tree


def target_names(target):
    """The names that are bound where something is stored into the target."""
    if target[0] == "name":
        return (target[1],)
    if target[0] != "tuple":
        return ()
    return tuple([name for part in target[1] for name in target_names(part)])


def own_trees(statement):
    """The expressions and targets of a statement, without those of statements in its blocks."""
    kind = statement[0]
    if kind in ("do", "drop", "return", "raise", "if", "while"):
        found = statement[2:3]
    elif kind in ("set", "yield", "for"):
        found = statement[2:4]
    elif kind == "change":
        found = statement[3:5]
    elif kind == "def":
        found = [default for _, default in statement[3]]
    elif kind == "class":
        found = statement[3:4]
    elif kind == "try":
        found = [handler[1] for handler in statement[3]]
    else:
        found = ()
    return tuple([tree for tree in found if tree != ()])


def blocks(statement):
    """The blocks of a statement, in the order of the text."""
    kind = statement[0]
    if kind == "if":
        return statement[3:5]
    if kind == "while":
        return statement[3:4]
    if kind in ("for", "def", "class"):
        return statement[4:5]
    if kind == "try":
        return (statement[2],) + tuple([handler[3] for handler in statement[3]]) + (statement[4],)
    return ()


def with_blocks(statement, made):
    """The same statement with other blocks, as many as `blocks` gives, in their places."""
    kind = statement[0]
    if kind in ("if", "while"):
        return statement[:3] + tuple(made)
    if kind in ("for", "def", "class"):
        return statement[:4] + tuple(made) + statement[5:]
    if kind == "try":
        handlers = [
            handler[:3] + (block,) for handler, block in zip(statement[3], made[1:-1])
        ]
        return statement[:2] + (made[0], tuple(handlers), made[-1])
    return statement
