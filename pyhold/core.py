"""The characters, the bounds, and the objects with which every run begins."""

CHARACTERS = "\n !\"#$&'()*+,-./0123456789:;<=>?@ABCDEFGHIJKLMNOPQRSTUVWXYZ[\\]^_`abcdefghijklmnopqrstuvwxyz{|}~"

# The first integer, without its sign, that is too large.
INTEGER_END = 1 << 256

# No text of a run has more characters, no tuple, list or dict more entries,
# and no key more values in it.
MOST_ENTRIES = 1000

# How many calls may be active, how long a line of classes may be, and how many
# characters a run may put out.
MOST_CALLS = 60
MOST_BASES = 60
MOST_OUTPUT = 100000

CLASSES = (
    "Exception",
    "ArithmeticError",
    "ZeroDivisionError",
    "OverflowError",
    "LookupError",
    "IndexError",
    "KeyError",
    "NameError",
    "AttributeError",
    "TypeError",
    "ValueError",
    "StopIteration",
    "RuntimeError",
    "RecursionError",
    "MemoryError",
    "HostError",
)

BASES = (-1, 1, 2, 2, 1, 5, 5, 1, 1, 1, 1, 1, 1, 13, 1, 1)

# How many objects every run has: the scope of the module and the classes.
FIRST_OBJECTS = 17

# The numbers of classes.
EXCEPTION = 1
ZERO_DIVISION_ERROR = 3
INDEX_ERROR = 6
KEY_ERROR = 7
NAME_ERROR = 8
ATTRIBUTE_ERROR = 9
TYPE_ERROR = 10
VALUE_ERROR = 11
STOP_ITERATION = 12
RUNTIME_ERROR = 13
RECURSION_ERROR = 14
HOST_ERROR = 16

BUILT = (
    "print", "len", "range", "repr", "str", "int", "list", "tuple", "dict",
    "iter", "next", "isinstance", "abs",
)


def start_heap(hosts):
    """The objects at the beginning of a run whose host has these functions."""
    variables = [(name, ("ref", at + 1)) for at, name in enumerate(CLASSES)]
    variables.extend([(name, ("built", name)) for name in BUILT])
    variables.extend([(name, ("host", name)) for name in hosts])
    heap = [("scope", tuple(variables), (), (), -1, False)]
    for name, base in zip(CLASSES, BASES):
        heap.append(("class", name, base, ()))
    return heap
