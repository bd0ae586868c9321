"""The written form of what a machine is made of: lists of integers from 0 to 255."""

from pyhold.core import CHARACTERS
from pyhold.fields import CONTROLS, OBJECTS
from pyhold.frames import FIELDS

# A digit of a count with more digits behind it has this added.
BASE = 128

# The kinds of values and of signals by the number that is written for them; a boolean has two.
VALUE_NUMBERS = {"none": 0, "int": 3, "text": 4, "span": 5, "built": 6, "host": 7, "ref": 8}
SIGNAL_NUMBERS = {"break": 1, "continue": 2, "return": 3, "raise": 4}


def write_count(n):
    """The digits of a count, the lowest first."""
    numbers = []
    while n >= BASE:
        numbers.append(n % BASE + BASE)
        n //= BASE
    numbers.append(n)
    return numbers


def write_integer(i):
    """An integer, written as a count."""
    if i >= 0:
        return write_count(2 * i)
    return write_count(-2 * i - 1)


def write_string(text):
    """The count of the characters, and their indexes."""
    return write_count(len(text)) + [CHARACTERS.index(character) for character in text]


def write_value(value):
    """The number of the kind of a value, and its parts."""
    kind = value[0]
    if kind == "bool" and value[1]:
        return [2]
    if kind == "bool":
        return [1]
    numbers = [VALUE_NUMBERS[kind]]
    if kind in ("text", "built", "host"):
        numbers.extend(write_string(value[1]))
    elif kind == "ref":
        numbers.extend(write_count(value[1]))
    else:
        for i in value[1:]:
            numbers.extend(write_integer(i))
    return numbers


def write_tree(tree):
    """A tree, ahead of its parts the count of them."""
    numbers = []
    waiting = [tree]
    while waiting:
        part = waiting.pop()
        if isinstance(part, tuple):
            numbers.append(0)
            numbers.extend(write_count(len(part)))
            waiting.extend(list(reversed(part)))
        elif isinstance(part, str):
            numbers.append(1)
            numbers.extend(write_string(part))
        elif isinstance(part, bool):
            numbers.append(3 + int(part))
        else:
            numbers.append(2)
            numbers.extend(write_integer(part))
    return numbers


def write_object(item):
    """The number of the kind of an object, and its fields."""
    return write_count(list(OBJECTS).index(item[0])) + _written_fields(OBJECTS[item[0]], item)


def write_frame(frame):
    """The number of the kind of a frame, and its fields."""
    return write_count(list(FIELDS).index(frame[0])) + _written_fields(FIELDS[frame[0]], frame)


def write_control(control):
    """The number of the kind of a control, and its fields."""
    return write_count(list(CONTROLS).index(control[0])) + _written_fields(CONTROLS[control[0]], control)


def _written_fields(letters, item):
    numbers = []
    for letter, field in zip(letters, item[1:]):
        action = WRITERS[letter]
        numbers.extend(action(field))
    return numbers


def _write_values(values):
    numbers = write_count(len(values))
    for value in values:
        numbers.extend(write_value(value))
    return numbers


def _write_pairs(pairs):
    numbers = write_count(len(pairs))
    for one, other in pairs:
        numbers.extend(write_value(one))
        numbers.extend(write_value(other))
    return numbers


def _write_named(pairs):
    numbers = write_count(len(pairs))
    for name, value in pairs:
        numbers.extend(write_string(name))
        numbers.extend(write_value(value))
    return numbers


def _write_number_or_none(k):
    return write_count(k + 1)


def _write_signal(signal):
    if signal == ():
        return [0]
    numbers = [SIGNAL_NUMBERS[signal[0]]]
    for value in signal[1:]:
        numbers.extend(write_value(value))
    return numbers


def _write_frames(frames):
    numbers = write_count(len(frames))
    for frame in frames:
        numbers.extend(write_frame(frame))
    return numbers


WRITERS = {
    "v": write_value,
    "V": _write_values,
    "W": _write_pairs,
    "X": _write_named,
    "t": write_tree,
    "a": write_count,
    "b": _write_number_or_none,
    "n": write_integer,
    "x": write_string,
    "s": _write_signal,
    "F": _write_frames,
}
