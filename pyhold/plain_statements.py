"""The plain meaning of statements: each of these functions gives an outcome."""

from pyhold.classes import base_refusal, is_exception_class, is_kind
from pyhold.core import EXCEPTION, RUNTIME_ERROR, TYPE_ERROR
from pyhold.items import drop_item
from pyhold.making import new_class, new_class_scope, new_function
from pyhold.methods import drop_item_method
from pyhold.names import bind_name, unbind_name
from pyhold.plain_iterating import advanced, has_ended, iterated
from pyhold.plain_outcomes import DONE, LONG, asked, collected, ended, may_begin, settled
from pyhold.values import object_kind, truth


def _do(plain, statement, env, fuel):
    return ended(plain.evaluate(statement[2], env, fuel))


def _set(plain, statement, env, fuel):
    _, _, target, e = statement
    outcome = plain.evaluate(e, env, fuel)
    if outcome[0] != "value":
        return outcome
    return plain.store(target, outcome[1], env, fuel)


def _change(plain, statement, env, fuel):
    _, line, op, target, e = statement
    return _set(plain, ("set", line, target, ("bin", op, target, e)), env, fuel)


def _drop(plain, statement, env, fuel):
    target = statement[2]
    if target[0] == "name":
        return ended(settled(plain, unbind_name(plain.heap, env, target[1])))
    outcome = collected(plain, target[1:], env, fuel)
    if outcome[0] != "value":
        return outcome
    a, index = outcome[1]
    found = drop_item_method(plain.heap, a, index)
    if found != ():
        return ended(asked(plain, found, fuel))
    return ended(settled(plain, drop_item(plain.heap, a, index)))


def _pass(plain, statement, env, fuel):
    return DONE


def _yield(plain, statement, env, fuel):
    # No function with a yield is executed; what a yield means is no part of the plain meaning.
    return DONE


def _leave(plain, statement, env, fuel):
    return (statement[0],)


def _return(plain, statement, env, fuel):
    outcome = plain.evaluate(statement[2], env, fuel)
    if outcome[0] != "value":
        return outcome
    return ("return", outcome[1])


def _raise(plain, statement, env, fuel):
    if statement[2] == ():
        if plain.handling:
            return ("raise", plain.handling[-1])
        return settled(plain, ("raise", RUNTIME_ERROR, "nothing to raise again"))
    outcome = plain.evaluate(statement[2], env, fuel)
    if outcome[0] == "value" and is_exception_class(plain.heap, outcome[1]):
        outcome = plain.apply(outcome[1], (), (), fuel)
    if outcome[0] != "value":
        return outcome
    if not is_kind(plain.heap, outcome[1], EXCEPTION):
        return settled(plain, ("raise", TYPE_ERROR, "not an exception"))
    return ("raise", outcome[1])


def _if(plain, statement, env, fuel):
    _, _, test, yes, no = statement
    outcome = plain.evaluate(test, env, fuel)
    if outcome[0] != "value":
        return outcome
    if truth(plain.heap, outcome[1]):
        return plain.execute(yes, env, fuel)
    return plain.execute(no, env, fuel)


def _while(plain, statement, env, fuel):
    _, _, test, block = statement
    outcome = DONE
    while outcome[0] in ("done", "continue"):
        outcome = plain.evaluate(test, env, fuel)
        if outcome[0] != "value":
            return outcome
        if not truth(plain.heap, outcome[1]):
            return DONE
        if not may_begin(plain):
            return LONG
        outcome = plain.execute(block, env, fuel)
    return _behind_loop(outcome)


def _for(plain, statement, env, fuel):
    _, _, target, e, block = statement
    outcome = plain.evaluate(e, env, fuel)
    if outcome[0] == "value":
        outcome = iterated(plain, outcome[1], fuel)
    if outcome[0] != "value":
        return outcome
    it = outcome[1]
    outcome = DONE
    while outcome[0] in ("done", "continue"):
        outcome = advanced(plain, it, fuel)
        if has_ended(plain, outcome):
            return DONE
        if outcome[0] != "value":
            return outcome
        outcome = _round(plain, target, outcome[1], block, env, fuel)
    return _behind_loop(outcome)


def _round(plain, target, value, block, env, fuel):
    """The outcome of a round of a for-loop with an element."""
    if not may_begin(plain):
        return LONG
    outcome = plain.store(target, value, env, fuel)
    if outcome != DONE:
        return outcome
    return plain.execute(block, env, fuel)


def _behind_loop(outcome):
    """The outcome of a loop that is ended by the outcome of a round."""
    if outcome[0] == "break":
        return DONE
    return outcome


def _def(plain, statement, env, fuel):
    _, _, x, params, block, names = statement
    with_default = [pair for pair in params if pair[1] != ()]
    outcome = collected(plain, [tree for _, tree in with_default], env, fuel)
    if outcome[0] != "value":
        return outcome
    defaults = tuple([(pair[0], value) for pair, value in zip(with_default, outcome[1])])
    made = new_function(plain.heap, x, params, defaults, block, names, env)
    return plain.store(("name", x), made, env, fuel)


def _class(plain, statement, env, fuel):
    _, _, x, tree, block, names = statement
    base = -1
    if tree != ():
        outcome = plain.evaluate(tree, env, fuel)
        if outcome[0] != "value":
            return outcome
        refusal = base_refusal(plain.heap, outcome[1])
        if refusal != "":
            return settled(plain, ("raise", TYPE_ERROR, refusal))
        base = outcome[1][1]
    scope = new_class_scope(plain.heap, names, env)
    outcome = plain.execute(block, scope, fuel)
    if outcome != DONE:
        return outcome
    return plain.store(("name", x), new_class(plain.heap, x, base, scope), env, fuel)


def _try(plain, statement, env, fuel):
    _, _, block, handlers, last = statement
    outcome = plain.execute(block, env, fuel)
    if outcome[0] == "raise":
        outcome = _handled(plain, outcome[1], handlers, env, fuel)
    if outcome[0] in ("ask", "deep", "long") or last == ():
        return outcome
    behind = plain.execute(last, env, fuel)
    if behind != DONE:
        return behind
    return outcome


def _handled(plain, v, handlers, env, fuel):
    """The outcome of a try whose block has raised an exception, ahead of its last block."""
    for _, tree, name, block in handlers:
        if tree != ():
            outcome = plain.evaluate(tree, env, fuel)
            if outcome[0] != "value":
                return outcome
            if object_kind(plain.heap, outcome[1]) != "class":
                return settled(plain, ("raise", TYPE_ERROR, "not a class"))
        if tree == () or is_kind(plain.heap, v, outcome[1][1]):
            if name != "":
                bind_name(plain.heap, env, name, v)
            return _handling(plain, v, block, env, fuel)
    return ("raise", v)


def _handling(plain, v, block, env, fuel):
    plain.handling.append(v)
    outcome = plain.execute(block, env, fuel)
    plain.handling.pop()
    return outcome


STATEMENTS = {
    "do": _do,
    "set": _set,
    "change": _change,
    "drop": _drop,
    "yield": _yield,
    "pass": _pass,
    "global": _pass,
    "nonlocal": _pass,
    "break": _leave,
    "continue": _leave,
    "return": _return,
    "raise": _raise,
    "if": _if,
    "while": _while,
    "for": _for,
    "def": _def,
    "class": _class,
    "try": _try,
}
