"""From the text of a program to the code that a run executes."""

from pyhold.parsing import parse
from pyhold.scopes import lower


def compile_text(text):
    """The program of a text, with its names."""
    return lower(parse(text))
