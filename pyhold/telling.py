"""The lines that are printed."""

from pyhold.core import MOST_ENTRIES, MOST_OUTPUT
from pyhold.values import TOO_LARGE


def longer_line(told, outcome, has_more):
    """The outcome that is a line with one more text, if that is the outcome of showing it."""
    if outcome[0] == "raise":
        return outcome
    line = told + outcome[1][1]
    if has_more:
        line += " "
    if len(line) > MOST_ENTRIES:
        return TOO_LARGE
    return ("ok", line)


def longer_output(out, line):
    """The outcome that is the whole output with one more line."""
    if len(out) + len(line) >= MOST_OUTPUT:
        return TOO_LARGE
    return ("ok", out + line + "\n")
