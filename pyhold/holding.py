"""Held runs: machines as lists of integers."""

from pyhold.coding import write_control, write_count, write_frame, write_object, write_string
from pyhold.core import FIRST_OBJECTS, MOST_CALLS, MOST_OUTPUT
from pyhold.errors import BadNumbers, TooLong
from pyhold.machine import Machine
from pyhold.reach import renumber
from pyhold.reader import NumberReader

# The number with which each held run begins, and the place of what follows it.
MARK = 1
TAKEN_PLACE = 1

MOST_NUMBERS = 1000000
MOST_IN_HERE = 30


def write_machine(machine, taken):
    """The held run of a machine, of whose output so many characters were taken."""
    numbers = _held(machine, taken, MOST_NUMBERS)
    if len(numbers) > MOST_NUMBERS:
        raise TooLong()
    return numbers


def read_machine(numbers):
    """The pair of a new machine, from a held run, and the count of characters taken."""
    if len(numbers) > MOST_NUMBERS:
        raise TooLong()
    reader = NumberReader(numbers, 0)
    reader.read_mark(MARK)
    taken = reader.read_count()
    machine, place = _read_fields(reader)
    if reader.at < len(numbers):
        raise BadNumbers(reader.at)
    if len(machine.heap) < FIRST_OBJECTS:
        raise BadNumbers(place)
    for first, k in reader.references:
        if k >= len(machine.heap):
            raise BadNumbers(first)
    if taken > len(machine.out):
        raise BadNumbers(TAKEN_PLACE)
    _check_same(numbers, _held(machine, taken, len(numbers)))
    return (machine, taken)


def _held(machine, taken, most):
    """The held run; if it has more numbers than most, more than most of its first ones."""
    same = renumber(machine)
    numbers = [MARK] + write_count(taken) + write_count(same.steps) + write_string(same.out)
    numbers.extend(write_count(same.active) + write_string(same.here) + write_count(same.line))
    numbers.extend(write_count(len(same.heap)))
    for item in same.heap:
        # A run can have far more numbers than are wanted, so they are not all made.
        if len(numbers) > most:
            return numbers
        numbers.extend(write_object(item))
    numbers.extend(write_control(same.control) + write_count(len(same.frames)))
    for frame in same.frames:
        if len(numbers) > most:
            return numbers
        numbers.extend(write_frame(frame))
    return numbers


def _read_fields(reader):
    """The machine, and the place of the count of its objects."""
    steps = reader.read_count()
    out = reader.read_string(MOST_OUTPUT)
    active = reader.read_count_below(MOST_CALLS + 1)
    here = reader.read_string(MOST_IN_HERE)
    line = reader.read_count()
    place = reader.at
    heap = [reader.read_object() for _ in range(reader.read_count())]
    control = reader.read_control()
    frames = [reader.read_frame() for _ in range(reader.read_count())]
    return (Machine(control, frames, heap, out, active, here, line, steps), place)


def _check_same(numbers, others):
    """Raises the error of the first place at which two lists differ."""
    for at, (number, other) in enumerate(zip(numbers, others)):
        if number != other:
            raise BadNumbers(at)
    if len(numbers) != len(others):
        raise BadNumbers(min(len(numbers), len(others)))
