"""Keys of dicts."""

from pyhold.core import MOST_ENTRIES, TYPE_ERROR
from pyhold.values import TOO_LARGE, kind_name, object_kind, same_leaf


def key_text(heap, value):
    """("ok", t), t a string that equal keys have in common and no others, or the refusal."""
    words = []
    waiting = [value]
    while waiting:
        if len(words) == MOST_ENTRIES:
            return TOO_LARGE
        part = waiting.pop()
        word = _word(heap, part)
        if word == "":
            return ("raise", TYPE_ERROR, "not a key: " + kind_name(heap, value))
        words.append(word)
        if part[0] == "ref":
            waiting.extend(list(reversed(heap[part[1]][1])))
    return ("ok", " ".join(words))


def find_key(heap, entries, key):
    """The place of the entry with this key, or -1."""
    text = key_text(heap, key)
    for at, (other, _) in enumerate(entries):
        if key[0] != "ref" or other[0] != "ref":
            if same_leaf(other, key):
                return at
        elif key_text(heap, other) == text:
            return at
    return -1


def key_place(heap, entries, key):
    """The outcome that is the place of the entry with this key, or -1."""
    outcome = key_text(heap, key)
    if outcome[0] == "raise":
        return outcome
    return ("ok", find_key(heap, entries, key))


def _word(heap, value):
    """What stands for one value in the text of a key, or "" if it can be none.

    Counts stand ahead of what they count, so that no two keys have the same text."""
    kind = value[0]
    if kind == "none":
        return "none"
    if kind in ("bool", "int"):
        return str(int(value[1]))
    if kind == "text":
        return str(len(value[1])) + ":" + value[1]
    if object_kind(heap, value) == "tuple":
        return "(" + str(len(heap[value[1]][1]))
    return ""
