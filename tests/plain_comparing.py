"""Equality and order of small heaps of lists, tuples and dicts, by recursion, word by word."""

from pyhold.values import kind_name


def plain_equal(heap, a, b, under_way=()):
    if a == b or (a, b) in under_way:
        return True
    if a[0] in ("int", "bool") and b[0] in ("int", "bool"):
        return a[1] == b[1]
    if a[0] != "ref" or b[0] != "ref":
        return False
    (kind, items), (other_kind, others) = heap[a[1]], heap[b[1]]
    if kind != other_kind or len(items) != len(others):
        return False
    under_way += ((a, b),)
    if kind == "dict":
        if [key for key, _ in items] != [key for key, _ in others]:
            return False
        items = [worth for _, worth in items]
        others = [worth for _, worth in others]
    return all(plain_equal(heap, x, y, under_way) for x, y in zip(items, others))


def plain_order(heap, op, a, b, met=()):
    """Only for op "<"."""
    one = heap[a[1]] if a[0] == "ref" else a
    other = heap[b[1]] if b[0] == "ref" else b
    if (a, b) not in met and one[0] == other[0] and one[0] in ("list", "tuple"):
        for x, y in zip(one[1], other[1]):
            if not plain_equal(heap, x, y):
                return plain_order(heap, op, x, y, met + ((a, b),))
        return ("ok", ("bool", len(one[1]) < len(other[1])))
    numbers = ("int", "bool")
    if one[0] in numbers and other[0] in numbers or one[0] == other[0] == "text":
        return ("ok", ("bool", one[1] < other[1]))
    kinds = kind_name(heap, a) + " and " + kind_name(heap, b)
    return ("raise", 10, "unsupported operands for " + op + ": " + kinds)
