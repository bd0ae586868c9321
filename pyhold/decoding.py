"""What was written as numbers: each of these functions gives it, and the index behind it."""

from pyhold.reader import NumberReader


def read_count(numbers, at):
    """The count that is written from an index on."""
    reader = NumberReader(numbers, at)
    count = reader.read_count()
    return (count, reader.at)


def read_integer(numbers, at):
    """The integer that is written from an index on."""
    reader = NumberReader(numbers, at)
    number = reader.read_integer()
    return (number, reader.at)


def read_string(numbers, at, *, most):
    """The string that is written from an index on, of at most so many characters."""
    reader = NumberReader(numbers, at)
    text = reader.read_string(most)
    return (text, reader.at)


def read_value(numbers, at):
    """The value that is written from an index on."""
    reader = NumberReader(numbers, at)
    value = reader.read_value()
    return (value, reader.at)


def read_tree(numbers, at):
    """The tree that is written from an index on."""
    reader = NumberReader(numbers, at)
    tree = reader.read_tree()
    return (tree, reader.at)


def read_object(numbers, at):
    """The object that is written from an index on."""
    reader = NumberReader(numbers, at)
    item = reader.read_object()
    return (item, reader.at)


def read_frame(numbers, at):
    """The frame that is written from an index on."""
    reader = NumberReader(numbers, at)
    frame = reader.read_frame()
    return (frame, reader.at)


def read_control(numbers, at):
    """The control that is written from an index on."""
    reader = NumberReader(numbers, at)
    control = reader.read_control()
    return (control, reader.at)
