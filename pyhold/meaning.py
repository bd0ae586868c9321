"""The plain meaning of programs without yield: by recursion over their trees."""

from pyhold.core import start_heap
from pyhold.plain_calls import applied
from pyhold.plain_expressions import EXPRESSIONS
from pyhold.plain_outcomes import DEEP, DONE, LONG, may_begin
from pyhold.plain_statements import STATEMENTS
from pyhold.plain_targets import stored
from pyhold.trees import blocks


class Plain:
    """A run of a program that is executed at once, as far as it goes."""

    def __init__(self, hosts, replies, left):
        self.heap = start_heap(hosts)
        self.out = ""
        self.active = 0
        self.replies = replies
        self.used = 0
        self.left = left
        self.handling = []

    def evaluate(self, e, env, fuel):
        """The outcome of an expression in a scope."""
        if fuel <= 0:
            return DEEP
        action = EXPRESSIONS[e[0]]
        return action(self, e, env, fuel - 1)

    def execute(self, block, env, fuel):
        """The outcome of a block in a scope."""
        if fuel <= 0:
            return DEEP
        for statement in block:
            if not may_begin(self):
                return LONG
            action = STATEMENTS[statement[0]]
            outcome = action(self, statement, env, fuel - 1)
            if outcome != DONE:
                return outcome
        return DONE

    def store(self, target, value, env, fuel):
        """The outcome of storing a value into a target."""
        return stored(self, target, value, env, fuel)

    def apply(self, f, args, named, fuel):
        """The outcome of a call."""
        if fuel <= 0:
            return DEEP
        if not may_begin(self):
            return LONG
        return applied(self, f, args, named, fuel - 1)


def has_yield(code):
    """Tells if a yield stands anywhere in a block, in the blocks of defs and classes too."""
    for statement in code:
        if statement[0] == "yield" or any([has_yield(block) for block in blocks(statement)]):
            return True
    return False


def run_plain(code, hosts, replies, fuel, left):
    """The outcome of a program, its heap, its output, and how many replies were taken."""
    plain = Plain(hosts, replies, left)
    outcome = plain.execute(code, 0, fuel)
    return (outcome, plain.heap, plain.out, plain.used)
