"""From the text of a program to its tokens."""

from pyhold.core import CHARACTERS, INTEGER_END
from pyhold.errors import Fault

KEYWORDS = (
    "False", "None", "True", "and", "as", "break", "class", "continue", "def",
    "del", "elif", "else", "except", "finally", "for", "global", "if", "in",
    "is", "mod", "nonlocal", "not", "or", "pass", "raise", "return", "try",
    "while", "yield",
)

# Longer signs stand ahead of those with which they begin.
SIGNS = (
    "//=", "//", "<=", ">=", "==", "!=", "+=", "-=", "*=", "+", "-", "*", "<",
    ">", "=", "(", ")", "[", "]", "{", "}", ",", ":", ".",
)

OPENED_BY = {")": "(", "]": "[", "}": "{"}
ESCAPES = {"\\": "\\", "\"": "\"", "'": "'", "n": "\n"}

MOST_CHARACTERS = 20000
MOST_IN_NAME = 30
MOST_IN_TEXT = 200
MOST_BRACKETS = 20
# 2 to the 256 has 78 digits, so a longer row of digits need not be converted.
MOST_DIGITS = 78


def split(text):
    """The tokens (kind, value, line) of a program text."""
    _check_characters(text)
    tokens = []
    indents = [0]
    brackets = []
    lines = text.split("\n")
    for at, line in enumerate(lines):
        if not brackets:
            if _is_blank(line):
                continue
            _add_indents(line, at + 1, indents, tokens)
        _add_line(line, at + 1, brackets, tokens)
        if not brackets:
            tokens.append(("newline", "", at + 1))
    if brackets:
        _, opened = brackets[-1]
        raise Fault(opened, "bracket not closed")
    for _ in indents[1:]:
        tokens.append(("dedent", "", len(lines)))
    tokens.append(("end", "", len(lines)))
    return tokens


def quoted(text):
    """The text as it is written in a program, between double quotes."""
    escaped = text.replace("\\", "\\\\").replace("\"", "\\\"").replace("\n", "\\n")
    return "\"" + escaped + "\""


def is_name(word):
    """Tells if a string is a name of a program."""
    if word == "" or word in KEYWORDS or len(word) > MOST_IN_NAME or not word.isascii():
        return False
    return not word[0].isdigit() and _word_end(word, 0) == len(word)


def _check_characters(text):
    if len(text) > MOST_CHARACTERS:
        raise Fault(1, "text too long")
    line = 1
    for character in text:
        if character not in CHARACTERS:
            raise Fault(line, "character not allowed")
        if character == "\n":
            line += 1


def _is_blank(line):
    words = line.lstrip(" ")
    return words == "" or words.startswith("#")


def _add_indents(line, number, indents, tokens):
    spaces = len(line) - len(line.lstrip(" "))
    if spaces > indents[-1]:
        indents.append(spaces)
        tokens.append(("indent", "", number))
    while spaces < indents[-1]:
        indents.pop()
        tokens.append(("dedent", "", number))
    if spaces != indents[-1]:
        raise Fault(number, "unmatched indentation")


def _add_line(line, number, brackets, tokens):
    at = 0
    while at < len(line) and line[at] != "#":
        if line[at] == " ":
            at += 1
        elif line[at].isalpha() or line[at] == "_":
            at = _add_word(line, at, number, tokens)
        elif line[at].isdigit():
            at = _add_integer(line, at, number, tokens)
        elif line[at] in ("\"", "'"):
            at = _add_text(line, at, number, tokens)
        else:
            at = _add_sign(line, at, number, brackets, tokens)


def _word_end(line, at):
    while at < len(line) and (line[at].isalnum() or line[at] == "_"):
        at += 1
    return at


def _add_word(line, at, number, tokens):
    end = _word_end(line, at)
    word = line[at:end]
    if word in KEYWORDS:
        tokens.append(("word", word, number))
    elif len(word) > MOST_IN_NAME:
        raise Fault(number, "name too long")
    else:
        tokens.append(("name", word, number))
    return end


def _add_integer(line, at, number, tokens):
    end = _word_end(line, at)
    digits = line[at:end]
    if not digits.isdigit() or (len(digits) > 1 and digits[0] == "0"):
        raise Fault(number, "invalid integer")
    if len(digits) > MOST_DIGITS or int(digits) >= INTEGER_END:
        raise Fault(number, "integer too large")
    tokens.append(("int", int(digits), number))
    return end


def _add_text(line, at, number, tokens):
    quote = line[at]
    characters = []
    at += 1
    while at < len(line) and line[at] != quote:
        if line[at] == "\\":
            at += 1
            characters.append(_escaped(line, at, number))
        else:
            characters.append(line[at])
        at += 1
    if at == len(line):
        raise Fault(number, "text not closed")
    if len(characters) > MOST_IN_TEXT:
        raise Fault(number, "text too long")
    tokens.append(("text", "".join(characters), number))
    return at + 1


def _escaped(line, at, number):
    if at == len(line):
        raise Fault(number, "text not closed")
    if line[at] not in ESCAPES:
        raise Fault(number, "invalid escape")
    return ESCAPES[line[at]]


def _add_sign(line, at, number, brackets, tokens):
    for sign in SIGNS:
        if line.startswith(sign, at):
            _follow_brackets(sign, number, brackets)
            tokens.append(("sign", sign, number))
            return at + len(sign)
    raise Fault(number, "unexpected sign")


def _follow_brackets(sign, number, brackets):
    """Keeps `brackets`, the pairs (sign, line) of those that are open."""
    if sign in ("(", "[", "{"):
        if len(brackets) == MOST_BRACKETS:
            raise Fault(number, "too many brackets")
        brackets.append((sign, number))
    elif sign in OPENED_BY:
        if not brackets or brackets[-1][0] != OPENED_BY[sign]:
            raise Fault(number, "unmatched bracket")
        brackets.pop()
