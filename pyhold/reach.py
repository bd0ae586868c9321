"""Which objects a machine can reach, how large they are, and a machine with other numbers."""

from pyhold.core import FIRST_OBJECTS
from pyhold.fields import CONTROLS, OBJECTS
from pyhold.frames import FIELDS
from pyhold.machine import Machine


def object_references(item):
    """The numbers of objects in the fields of an object, in their order."""
    return _references(OBJECTS[item[0]], item)


def frame_references(frame):
    """The numbers of objects in the fields of a frame, in their order."""
    return _references(FIELDS[frame[0]], frame)


def control_references(control):
    """The numbers of objects in the fields of a control, in their order."""
    return _references(CONTROLS[control[0]], control)


def reached(machine):
    """The numbers of the objects that a machine can reach, in the order in which they are met."""
    found = list(range(FIRST_OBJECTS))
    known = {k: True for k in found}
    _add_new(found, known, control_references(machine.control))
    for frame in machine.frames:
        _add_new(found, known, frame_references(frame))
    at = 0
    while at < len(found):
        _add_new(found, known, object_references(machine.heap[found[at]]))
        at += 1
    return found


def live_size(machine):
    """The size of all that a machine can reach."""
    size = _weight(CONTROLS[machine.control[0]], machine.control)
    size += _size_of_frames(machine.frames)
    for k in reached(machine):
        item = machine.heap[k]
        size += 1 + _weight(OBJECTS[item[0]], item)
    return size


def renumber(machine):
    """A new machine that is the same run, with the canonical numbers of its objects."""
    order = reached(machine)
    numbers = {k: at for at, k in enumerate(order)}
    control = _renumbered(CONTROLS[machine.control[0]], machine.control, numbers)
    frames = [_renumbered(FIELDS[frame[0]], frame, numbers) for frame in machine.frames]
    items = [machine.heap[k] for k in order]
    heap = [_renumbered(OBJECTS[item[0]], item, numbers) for item in items]
    return Machine(
        control, frames, heap, machine.out, machine.active, machine.here, machine.line, machine.steps)


def same_run(machine, other):
    """Tells if two machines are the same run."""
    one = _fields(renumber(machine))
    two = _fields(renumber(other))
    return one == two and _same_booleans(one, two)


def _add_new(found, known, references):
    for k in references:
        if k not in known:
            known[k] = True
            found.append(k)


def _values(letter, field):
    """The values in a field, in their order."""
    if letter == "v":
        return (field,)
    if letter == "V":
        return field
    if letter == "W":
        return tuple([value for pair in field for value in pair])
    if letter == "X":
        return tuple([value for _, value in field])
    if letter == "s":
        return field[1:]
    return ()


def _references(letters, item):
    found = []
    for letter, field in zip(letters, item[1:]):
        if letter == "F":
            for frame in field:
                found.extend(frame_references(frame))
        elif letter not in ("a", "b"):
            found.extend([value[1] for value in _values(letter, field) if value[0] == "ref"])
        elif field >= 0:
            found.append(field)
    return found


def _weight(letters, item):
    """The weights of the values in the fields of an object, a frame or a control."""
    weight = 0
    for letter, field in zip(letters, item[1:]):
        if letter == "F":
            weight += _size_of_frames(field)
        for value in _values(letter, field):
            weight += 1
            if value[0] == "text":
                weight += len(value[1])
    return weight


def _size_of_frames(frames):
    return sum([1 + _weight(FIELDS[frame[0]], frame) for frame in frames])


def _renumbered(letters, item, numbers):
    fields = [_with_numbers(letter, field, numbers) for letter, field in zip(letters, item[1:])]
    return (item[0],) + tuple(fields)


def _with_numbers(letter, field, numbers):
    """A field with the new number in place of each number of an object."""
    if letter == "v":
        return _new_value(field, numbers)
    if letter == "V":
        return tuple([_new_value(value, numbers) for value in field])
    if letter == "W":
        return tuple([(_new_value(key, numbers), _new_value(worth, numbers)) for key, worth in field])
    if letter == "X":
        return tuple([(name, _new_value(value, numbers)) for name, value in field])
    if letter == "s":
        return field[:1] + tuple([_new_value(value, numbers) for value in field[1:]])
    if letter == "F":
        return tuple([_renumbered(FIELDS[frame[0]], frame, numbers) for frame in field])
    if letter in ("a", "b") and field >= 0:
        return numbers[field]
    return field


def _new_value(value, numbers):
    if value[0] == "ref":
        return ("ref", numbers[value[1]])
    return value


def _fields(machine):
    return (
        machine.control, tuple(machine.frames), tuple(machine.heap), machine.out, machine.active,
        machine.here, machine.line, machine.steps)


def _same_booleans(one, other):
    """Tells if two equal tuples have booleans in the same places, as True is equal to 1."""
    waiting = [(one, other)]
    while waiting:
        a, b = waiting.pop()
        if isinstance(a, tuple):
            waiting.extend(list(zip(a, b)))
        elif isinstance(a, bool) != isinstance(b, bool):
            return False
    return True
