"""The texts in which values are shown."""

from pyhold.core import MOST_ENTRIES
from pyhold.values import TOO_LARGE, kind_name, object_kind

BRACKETS = {"list": ("[", "]"), "tuple": ("(", ")"), "dict": ("{", "}")}


def show(heap, value):
    """The outcome that is the text in which a value is shown."""
    told = ""
    under_way = {}
    waiting = [("show", value)]
    while waiting:
        # All that waits will tell one character at least.
        if len(told) + len(waiting) > MOST_ENTRIES:
            return TOO_LARGE
        job, what = waiting.pop()
        if job == "say":
            told += what
        elif job == "close":
            told += BRACKETS[heap[what][0]][1]
            del under_way[what]
        elif object_kind(heap, what) not in BRACKETS:
            told += _leaf(heap, what)
        else:
            opening, closing = BRACKETS[object_kind(heap, what)]
            told += opening
            if what[1] in under_way:
                told += "..." + closing
            else:
                under_way[what[1]] = True
                waiting.extend(_jobs(heap, what[1]))
    if len(told) > MOST_ENTRIES:
        return TOO_LARGE
    return ("ok", ("text", told))


def words(heap, value):
    """The same outcome, but a text is itself."""
    if value[0] == "text":
        return ("ok", value)
    return show(heap, value)


def _jobs(heap, k):
    """What tells an object behind its opening bracket, the last first."""
    kind, parts = heap[k]
    jobs = []
    for part in parts:
        if jobs:
            jobs.append(("say", ", "))
        if kind == "dict":
            jobs.append(("show", part[0]))
            jobs.append(("say", ": "))
            jobs.append(("show", part[1]))
        else:
            jobs.append(("show", part))
    if kind == "tuple" and len(parts) == 1:
        jobs.append(("say", ","))
    jobs.append(("close", k))
    return list(reversed(jobs))


def _leaf(heap, value):
    """The text of a value that has no parts."""
    kind = value[0]
    if kind == "none":
        return "None"
    if kind in ("bool", "int"):
        return str(value[1])
    if kind == "text":
        return _in_quotes(value[1])
    if kind == "span":
        return f"range({value[1]}, {value[2]})"
    if kind == "ref":
        return _object_text(heap, heap[value[1]])
    return f"<{kind_name(heap, value)} {value[1]}>"


def _in_quotes(text):
    quote = "'"
    if "'" in text and "\"" not in text:
        quote = "\""
    told = text.replace("\\", "\\\\").replace("\n", "\\n").replace(quote, "\\" + quote)
    return quote + told + quote


def _object_text(heap, found):
    kind = found[0]
    if kind == "func":
        return f"<function {found[1]}>"
    if kind == "class":
        return f"<class {found[1]}>"
    if kind == "inst":
        return f"<{heap[found[1]][1]} object>"
    if kind == "bound":
        return f"<method {_function_name(heap, found[2])}>"
    if kind == "gen":
        return f"<generator {found[1]}>"
    if kind == "iter":
        return "<iterator>"
    return "<scope>"


def _function_name(heap, value):
    if value[0] in ("built", "host"):
        return value[1]
    if object_kind(heap, value) in ("func", "class"):
        return heap[value[1]][1]
    return kind_name(heap, value)
