"""What several tests need."""

from pyhold.errors import Fault


def fault_of(function, argument):
    """The pair (line, reason) of the Fault that the call raises, or None."""
    try:
        function(argument)
    except Fault as fault:
        return fault.line, fault.reason
    return None


def name(x):
    return ("name", x)


def num(n):
    return ("const", ("int", n))


def text(t):
    return ("const", ("text", t))


NONE = ("const", ("none",))
TRUE = ("const", ("bool", True))
FALSE = ("const", ("bool", False))
