"""Runs of programs."""

from pyhold.compiling import compile_text
from pyhold.core import BUILT, CLASSES
from pyhold.data import is_data, put_data, take_data
from pyhold.errors import BadData, BadState
from pyhold.faults import is_raise, new_fault
from pyhold.holding import read_machine, write_machine
from pyhold.machine import Machine, start, step
from pyhold.pairs import paired
from pyhold.reach import live_size, same_run
from pyhold.values import kind_name, object_kind
from pyhold.words import is_name

MOST_HOSTS = 100


class Run:
    """A machine, how many characters of its output were taken, and a limit of its size."""

    def __init__(self, machine, taken, limit):
        self._machine = machine
        self._taken = taken
        self._limit = limit

    @property
    def limit(self):
        """The limit: None, or the greatest live size with which the run goes on."""
        return self._limit

    @property
    def step_count(self):
        """The number of steps from the beginning."""
        return self._machine.steps

    @property
    def output(self):
        """All output."""
        return self._machine.out

    def set_limit(self, limit):
        """Sets the limit."""
        _check_limit(limit)
        self._limit = limit

    def state(self):
        """The state of the run."""
        machine = self._machine
        if machine.control[0] == "ask":
            return "asking"
        if not machine.frames and machine.control == ("done",):
            return "over"
        if not machine.frames and is_raise(machine.control):
            return "failed"
        if self._limit is not None and live_size(machine) > self._limit:
            return "full"
        return "ready"

    def size(self):
        """The live size."""
        return live_size(self._machine)

    def where(self):
        """The name of the present function, and the present line."""
        return (self._machine.here, self._machine.line)

    def go(self, many):
        """Makes at most so many steps; gives the state, and how many were made."""
        check_count(many)
        made = 0
        state = self.state()
        while state == "ready" and made < many:
            step(self._machine)
            made += 1
            state = self.state()
        return (state, made)

    def request(self):
        """The function of the host that is asked for, and the data of its arguments, or None."""
        if self.state() != "asking":
            return None
        _, name, values = self._machine.control
        return (name, [take_data(self._machine.heap, value) for value in values])

    def answer(self, data):
        """Lets the function of the host give data."""
        if self.state() != "asking":
            raise BadState()
        self._machine.control = ("value", put_data(self._machine.heap, data))

    def refuse(self, kind, message):
        """Lets the function of the host raise an exception."""
        if self.state() != "asking":
            raise BadState()
        if kind not in CLASSES or not isinstance(message, str) or not is_data(message):
            raise BadData()
        made = new_fault(self._machine.heap, CLASSES.index(kind) + 1, message)
        self._machine.control = ("leave", ("raise", made))

    def take(self):
        """The output that was not taken yet, which is taken now."""
        text = self._machine.out[self._taken:]
        self._taken = len(self._machine.out)
        return text

    def failure(self):
        """The name of the class and the text of the exception that has ended the run, or None."""
        if self.state() != "failed":
            return None
        heap = self._machine.heap
        value = self._machine.control[1][1]
        return (kind_name(heap, value), _exception_text(heap, value))

    def twin(self):
        """A new run that is equal to this one."""
        old = self._machine
        machine = Machine(
            old.control, list(old.frames), list(old.heap), old.out, old.active, old.here, old.line,
            old.steps)
        return Run(machine, self._taken, self._limit)

    def hold(self):
        """The held run."""
        return write_machine(self._machine, self._taken)

    def same_as(self, other):
        """Tells if both are the same run, of which the same output was taken."""
        return same_run(self._machine, other._machine) and self._taken == other._taken


def begin(text, hosts=(), *, limit=None):
    """A new run of a program text."""
    _check_hosts(hosts)
    _check_limit(limit)
    return Run(start(compile_text(text), hosts), 0, limit)


def restore(numbers, *, limit=None):
    """The run of a held run."""
    _check_limit(limit)
    machine, taken = read_machine(numbers)
    return Run(machine, taken, limit)


def replay(text, hosts, replies, steps):
    """A new run of a program text that has made so many steps, with these replies, as far as it goes."""
    check_count(steps)
    run = begin(text, hosts)
    given = 0
    while run.step_count < steps and run.state() in ("ready", "asking"):
        if run.state() == "asking":
            if given == len(replies):
                return run
            give_reply(run, replies[given])
            given += 1
        run.go(steps - run.step_count)
    return run


def give_reply(run, reply):
    """Gives a run that is asking a reply, which may be none."""
    if not isinstance(reply, tuple):
        raise BadData()
    if len(reply) == 2 and reply[0] == "answer":
        run.answer(reply[1])
    elif len(reply) == 3 and reply[0] == "refuse":
        run.refuse(reply[1], reply[2])
    else:
        raise BadData()


def check_count(many):
    """Raises the error of what is no integer from 0."""
    if not _is_count(many):
        raise BadData()


def _is_count(many):
    return isinstance(many, int) and not isinstance(many, bool) and many >= 0


def _check_limit(limit):
    if limit is not None and not _is_count(limit):
        raise BadData()


def _check_hosts(hosts):
    """Raises the error of what are no names of functions of a host."""
    if len(hosts) > MOST_HOSTS:
        raise BadData()
    for at, name in enumerate(hosts):
        if not is_name(name) or name in CLASSES or name in BUILT or name in hosts[:at]:
            raise BadData()


def _exception_text(heap, value):
    """The text of an exception that has one text as its only argument, otherwise ""."""
    if object_kind(heap, value) != "inst":
        return ""
    args = paired(heap[value[1]][2], "args")
    if args == () or object_kind(heap, args) != "tuple":
        return ""
    items = heap[args[1]][1]
    if len(items) != 1 or items[0][0] != "text":
        return ""
    return items[0][1]
