"""The variables of a call."""

from pyhold.core import TYPE_ERROR


def bind(name, params, defaults, args, named):
    """The outcome that is the pairs of the parameters and their values, in their order."""
    known = dict(defaults)
    known.update(dict(zip(params, args)))
    known.update(dict(named))
    words = _refusal(params, args, named, known)
    if words != "":
        return ("raise", TYPE_ERROR, name + "() " + words)
    return ("ok", tuple([(x, known[x]) for x in params]))


def _refusal(params, args, named, known):
    """What is wrong with the arguments, in words, or ""."""
    if len(args) > len(params):
        return "takes too many arguments"
    for x, _ in named:
        if x not in params:
            return "has no parameter " + x
    for x, _ in named:
        if x in params[:len(args)]:
            return "was given " + x + " twice"
    for x in params:
        if x not in known:
            return "needs " + x
    return ""
