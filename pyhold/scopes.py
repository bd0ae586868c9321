"""Which names are bound in which block, and the faults of names."""

from pyhold.errors import Fault
from pyhold.trees import blocks, nodes, own_trees, target_names, with_blocks


class Scope:
    """The module, a def or a class, while the statements of its block are looked at."""

    def __init__(self, kind, params, own, shared, around):
        self.kind = kind
        self.params = params
        # The names that are bound here, and those that stand for the module's.
        self.own = own
        self.shared = shared
        # The scopes of the defs around, the innermost last.
        self.around = around
        self.used = {}
        self.declared = {}


def lower(program):
    """The program with its names in each def and class."""
    return _lower_block(program, Scope("module", (), (), (), ()), False)


def bound(block):
    """The names that are bound in a block, in the order of their first binding."""
    names = {}
    _add_bound(block, names)
    return tuple(list(names))


def _add_bound(block, names):
    for statement in block:
        for name in _bound_first(statement):
            names[name] = True
        if statement[0] == "try":
            _add_bound_by_try(statement, names)
        elif statement[0] not in ("def", "class"):
            for inner in blocks(statement):
                _add_bound(inner, names)


def _add_bound_by_try(statement, names):
    _, _, block, handlers, last = statement
    _add_bound(block, names)
    for _, _, name, taken in handlers:
        if name != "":
            names[name] = True
        _add_bound(taken, names)
    _add_bound(last, names)


def _bound_first(statement):
    """The names that a statement binds without those that are bound in its blocks."""
    kind = statement[0]
    if kind in ("def", "class"):
        return (statement[2],)
    if kind == "change":
        return target_names(statement[3])
    if kind in ("set", "for", "drop") or (kind == "yield" and statement[2] != ()):
        return target_names(statement[2])
    return ()


def _lower_block(block, scope, in_loop):
    return tuple([_lower_statement(statement, scope, in_loop) for statement in block])


def _lower_statement(statement, scope, in_loop):
    kind = statement[0]
    _check_statement(statement, scope, in_loop)
    if kind == "def":
        return _lower_def(statement, scope)
    if kind == "class":
        return _lower_class(statement, scope)
    loops = in_loop or kind in ("while", "for")
    made = [_lower_block(block, scope, loops) for block in blocks(statement)]
    return with_blocks(statement, made)


def _check_statement(statement, scope, in_loop):
    kind = statement[0]
    line = statement[1]
    if kind in ("break", "continue") and not in_loop:
        raise Fault(line, kind + " outside a loop")
    if kind in ("return", "yield") and scope.kind != "def":
        raise Fault(line, kind + " outside a function")
    if kind in ("global", "nonlocal"):
        _check_declaration(statement, scope)
    elif kind == "def":
        _check_params(statement[3], line)
    for name in _used_names(statement):
        scope.used[name] = True


def _lower_def(statement, scope):
    block = statement[4]
    params = tuple([name for name, _ in statement[3]])
    shared = _declared(block, ("global",))
    declared = _declared(block, ("global", "nonlocal"))
    others = [name for name in bound(block) if name not in declared and name not in params]
    own = params + tuple(others)
    inner = Scope("def", params, own, shared, _defs_around(scope))
    names = (own, shared, _makes(block))
    return statement[:4] + (_lower_block(block, inner, False), names)


def _lower_class(statement, scope):
    block = statement[4]
    own = bound(block)
    inner = Scope("class", (), own, (), _defs_around(scope))
    return statement[:4] + (_lower_block(block, inner, False), (own, (), False))


def _defs_around(scope):
    """The scopes of the defs around what stands in a scope."""
    if scope.kind == "def":
        return scope.around + (scope,)
    return scope.around


def _statements(block):
    """The statements of a block and of all blocks in it, but not those in a def or class in it."""
    found = []
    for statement in block:
        found.append(statement)
        if statement[0] not in ("def", "class"):
            for inner in blocks(statement):
                found.extend(_statements(inner))
    return found


def _declared(block, kinds):
    """The names in the declarations of these kinds, in their order."""
    declarations = [statement for statement in _statements(block) if statement[0] in kinds]
    return tuple([name for declaration in declarations for name in declaration[2]])


def _makes(block):
    return any(statement[0] == "yield" for statement in _statements(block))


def _used_names(statement):
    """The names that a statement reads or binds, without what stands in its blocks."""
    names = []
    for tree in own_trees(statement):
        names.extend([part[1] for part, _ in nodes(tree) if part[0] == "name"])
    if statement[0] in ("def", "class"):
        names.append(statement[2])
    if statement[0] == "try":
        names.extend([name for _, _, name, _ in statement[3]])
    return names


def _check_params(params, line):
    names = [name for name, _ in params]
    for at, name in enumerate(names):
        if name in names[:at]:
            raise Fault(line, "parameter twice")
    has_default = False
    for _, default in params:
        if default != ():
            has_default = True
        elif has_default:
            raise Fault(line, "parameter without a default")


def _check_declaration(statement, scope):
    kind, line, names = statement
    if scope.kind != "def":
        raise Fault(line, "declaration outside a function")
    for name in names:
        if name in scope.params:
            raise Fault(line, "name is a parameter")
        if name in scope.declared:
            raise Fault(line, "name declared twice")
        if name in scope.used:
            raise Fault(line, "name used before its declaration")
        if kind == "nonlocal" and not _has_outer(name, scope.around):
            raise Fault(line, "no outer name")
        scope.declared[name] = True


def _has_outer(name, around):
    """Tells if the innermost def around that has the name as its own or as the module's
    has it as its own."""
    for scope in reversed(around):
        if name in scope.own:
            return True
        if name in scope.shared:
            return False
    return False
