"""Equality, order, membership, and which values can be keys."""

from pyhold.keys import find_key, key_text
from pyhold.values import is_number, object_kind, row_of, same_leaf, unsupported


def equal(heap, a, b):
    """Tells if two values are equal."""
    return _alike(heap, a, b, {})


def compare(heap, op, a, b):
    """The outcome of the comparison `a op b`."""
    if op in ("==", "!="):
        return _answer(equal(heap, a, b) == (op == "=="))
    if op in ("is", "isnot"):
        return _answer((a == b) == (op == "is"))
    if op == "in":
        return _membership(heap, a, b)
    if op == "notin":
        return _opposite(_membership(heap, a, b))
    return _order(heap, op, a, b)


def is_key(heap, value):
    """The outcome that is true if the value can be a key, or the refusal."""
    outcome = key_text(heap, value)
    if outcome[0] == "raise":
        return outcome
    return _answer(True)


def _answer(holds):
    return ("ok", ("bool", holds))


def _opposite(outcome):
    if outcome[0] == "raise":
        return outcome
    return _answer(not outcome[1][1])


def _alike(heap, a, b, unequal):
    """Tells if two values are equal, and notes in `unequal` which pairs of objects differ.

    The pairs that their equality hangs on are looked at one by one. Two objects that
    were a pair already, directly or by way of others, need not be looked at again:
    if they differ, that is found where they were met first."""
    if a[0] != "ref" or b[0] != "ref":
        return same_leaf(a, b)
    leaders = {}
    trail = [(a[1], b[1], -1)]
    waiting = [0]
    while waiting:
        at = waiting.pop()
        one, other, _ = trail[at]
        if (one, other) in unequal:
            _note_unequal(trail, at, unequal)
            return False
        if _leader(leaders, one) == _leader(leaders, other):
            continue
        leaders[_leader(leaders, one)] = _leader(leaders, other)
        if not _add_pairs(heap, trail, at, waiting):
            _note_unequal(trail, at, unequal)
            return False
    return True


def _leader(leaders, k):
    """The object that stands for all those that are taken to be equal to the object k."""
    while leaders.get(k, k) != k:
        above = leaders[k]
        leaders[k] = leaders.get(above, above)
        k = above
    return k


def _note_unequal(trail, at, unequal):
    """Notes a pair on the trail, and the pairs whose parts it is among."""
    while at >= 0:
        one, other, above = trail[at]
        unequal[(one, other)] = True
        at = above


def _add_pairs(heap, trail, at, waiting):
    """Puts the pairs of parts of a pair on the trail; False if it differs by itself."""
    one, other, _ = trail[at]
    pairs = _pairs_of_parts(heap, heap[one], heap[other])
    if pairs is None:
        return False
    for a, b in pairs:
        if a[0] != "ref" or b[0] != "ref":
            if not same_leaf(a, b):
                return False
        elif a != b:
            waiting.append(len(trail))
            trail.append((a[1], b[1], at))
    return True


def _pairs_of_parts(heap, one, other):
    """The pairs of values that are equal if two different objects are, None if they are not."""
    if one[0] != other[0] or one[0] not in ("tuple", "list", "dict"):
        return None
    if len(one[1]) != len(other[1]):
        return None
    if one[0] == "dict":
        return _pairs_by_key(heap, one[1], other[1])
    return list(zip(one[1], other[1]))


def _pairs_by_key(heap, entries, others):
    worths = {}
    for key, worth in others:
        worths[key_text(heap, key)] = worth
    pairs = []
    for key, worth in entries:
        text = key_text(heap, key)
        if text not in worths:
            return None
        pairs.append((worth, worths[text]))
    return pairs


def _order(heap, op, a, b):
    met = set()
    unequal = {}
    while _both_rows(heap, a, b) and (a, b) not in met:
        met.add((a, b))
        one = row_of(heap, a)
        other = row_of(heap, b)
        place = _first_difference(heap, one, other, unequal)
        if place < 0:
            return _answer(_holds(op, len(one), len(other)))
        a = one[place]
        b = other[place]
    if (is_number(a) and is_number(b)) or (a[0] == "text" and b[0] == "text"):
        return _answer(_holds(op, a[1], b[1]))
    return unsupported(heap, op, a, b)


def _both_rows(heap, a, b):
    """Tells if both are tuples, or both are lists."""
    kind = object_kind(heap, a)
    return kind in ("tuple", "list") and object_kind(heap, b) == kind


def _first_difference(heap, one, other, unequal):
    """The place of the first pair of items that is not equal, or -1."""
    for at, (a, b) in enumerate(zip(one, other)):
        if not _alike(heap, a, b, unequal):
            return at
    return -1


def _holds(op, one, other):
    if op == "<":
        return one < other
    if op == "<=":
        return one <= other
    if op == ">":
        return one > other
    return one >= other


def _membership(heap, a, b):
    if b[0] == "text" and a[0] == "text":
        return _answer(a[1] in b[1])
    if b[0] == "span":
        return _answer(is_number(a) and b[1] <= a[1] < b[2])
    kind = object_kind(heap, b)
    if kind in ("tuple", "list"):
        return _answer(any(equal(heap, a, each) for each in row_of(heap, b)))
    if kind == "dict":
        outcome = is_key(heap, a)
        if outcome[0] == "raise":
            return outcome
        return _answer(find_key(heap, heap[b[1]][1], a) >= 0)
    return unsupported(heap, "in", a, b)
