"""Tuples of pairs of a name and a value."""


def paired(pairs, x):
    """The value that is paired with a name, or () if there is none."""
    for name, value in pairs:
        if name == x:
            return value
    return ()


def with_pair(pairs, x, value):
    """The pairs with another value for a name, in its place, or at the end if it is new."""
    made = []
    found = False
    for pair in pairs:
        if pair[0] == x:
            made.append((x, value))
            found = True
        else:
            made.append(pair)
    if not found:
        made.append((x, value))
    return tuple(made)


def without_pair(pairs, x):
    """The pairs but that of a name."""
    return tuple([pair for pair in pairs if pair[0] != x])
