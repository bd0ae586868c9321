"""What the document promises over the whole (c0, r7): whatever a host does with runs, in any order,
each is at the machine of a run that was never touched."""

import random
import unittest

from pyhold.compiling import compile_text
from pyhold.data import put_data
from pyhold.errors import BadData, BadState
from pyhold.faults import new_fault
from pyhold.holding import write_machine
from pyhold.machine import start, step
from pyhold.reach import live_size
from pyhold.runs import begin, replay, restore
from pyhold.tapes import Tape
from tests.programs_at_random import Writer
from tests.samples import PROGRAM

ASKING = (
    "rows = []\nclass Box:\n    def op_init(self, n):\n        self.n = n\n    def op_str(self):\n        return str(ask(self.n))\n"
    "def gen():\n    try:\n        while True:\n            x = yield ask(len(rows))\n            rows.append(x)\n"
    "    finally:\n        print('closed', rows)\ng = gen()\nfor k in range(4):\n    try:\n        print(k, next(g), Box(k))\n"
    "        rows = rows + [ask(rows[:2], {k: k})]\n    except LookupError as e:\n        print('caught', e.args)\n"
    "    except HostError:\n        g.close()\n        raise\ng.close()\n")

DATA = (1, None, "it", [1, [2]], (True, {}), {"a": 1, (1, 2): [3]})
REFUSALS = (("KeyError", "k"), ("IndexError", ""), ("HostError", "no"), ("RuntimeError", "a"))


class Twin:
    """A machine led step by step, and what was done to it: what a run must be at."""

    def __init__(self, text, hosts):
        self.text = text
        self.hosts = hosts
        self.moves = []
        self.taken = 0

    def machine(self):
        machine = start(compile_text(self.text), self.hosts)
        for move in self.moves:
            if move == ("step",):
                assert step(machine)
            elif move[0] == "answer":
                machine.control = ("value", put_data(machine.heap, move[1]))
            else:
                k = ("KeyError", "IndexError", "HostError", "RuntimeError").index(move[1])
                machine.control = ("leave", ("raise", new_fault(machine.heap, (7, 6, 16, 13)[k], move[2])))
        return machine

    def copy(self):
        other = Twin(self.text, self.hosts)
        other.moves = list(self.moves)
        other.taken = self.taken
        return other


class Histories(unittest.TestCase):
    def check(self, run, twin, limit):
        machine = twin.machine()
        self.assertEqual(run.hold(), write_machine(machine, twin.taken))
        self.assertEqual(
            (run.step_count, run.output, run.where(), run.size(), run.limit),
            (machine.steps, machine.out, (machine.here, machine.line), live_size(machine), limit))

    def reply(self, chance, run, twin):
        if chance.randint(0, 3):
            data = chance.choice(DATA)
            run.answer(data)
            twin.moves.append(("answer", data))
        else:
            kind, message = chance.choice(REFUSALS)
            run.refuse(kind, message)
            twin.moves.append(("refuse", kind, message))

    def act(self, chance, runs):
        """Does something with one of some runs, each with what it must be at and its limit."""
        at = chance.randrange(len(runs))
        run, twin, limit = runs[at]
        kind = chance.randint(0, 9)
        if kind <= 3:
            state, made = run.go(chance.choice((0, 1, 2, 3, 5, 8, 30, 200)))
            twin.moves += [("step",)] * made
            self.assertEqual(state, run.state())
        elif kind == 4 and run.state() == "asking":
            self.reply(chance, run, twin)
        elif kind == 4:
            self.assertRaises(BadState, run.answer, 1)
            self.assertRaises(BadData, run.go, -1)
        elif kind == 5:
            machine = twin.machine()
            self.assertEqual(run.take(), machine.out[twin.taken:])
            twin.taken = len(machine.out)
        elif kind == 6:
            runs.append((run.twin(), twin.copy(), limit))
        elif kind == 7:
            limit = chance.choice((None, None, 0, run.size(), run.size() + 3, 10 ** 9))
            run.set_limit(limit)
            runs[at] = (run, twin, limit)
        elif kind == 8:
            runs[at] = (restore(run.hold(), limit=limit), twin, limit)
        else:
            replies = [move for move in twin.moves if move != ("step",)]
            again = replay(twin.text, twin.hosts, replies, run.step_count)
            if twin.moves and twin.moves[-1] != ("step",):
                # All steps are made ahead of the last reply, so it is not given.
                self.assertEqual(again.state(), "asking")
            else:
                self.assertEqual(again.hold(), write_machine(twin.machine(), 0))

    def history(self, seed, text, hosts, many):
        chance = random.Random(seed)
        runs = [(begin(text, hosts), Twin(text, hosts), None)]
        for _ in range(many):
            self.act(chance, runs)
            if len(runs) > 3:
                runs.pop(chance.randrange(len(runs)))
            for run, twin, limit in runs:
                self.check(run, twin, limit)
        for one, twin, _ in runs:
            for other, other_twin, _ in runs:
                self.assertIs(one.same_as(other), one.hold() == other.hold())
                if twin.moves == other_twin.moves and twin.taken == other_twin.taken:
                    self.assertIs(one.same_as(other), True)

    def test_programs_that_ask(self):
        for seed in range(12):
            self.history(seed, ASKING, ("ask",), 40)
            self.history(seed, PROGRAM, ("ask",), 25)

    def test_programs_at_random(self):
        for seed in range(10):
            self.history(seed, Writer(seed).text(), (), 20)


class Slices(unittest.TestCase):
    def run_of(self, size, text, hold):
        """A run that was led to its end in slices, perhaps held and restored at each of them."""
        run = begin(text, ("ask",))
        replies = 0
        while True:
            if run.state() == "asking":
                run.answer(DATA[replies % len(DATA)])
                replies += 1
            elif run.state() != "ready":
                return run
            run.go(size)
            if hold:
                run = restore(run.hold())

    def test_each_size(self):
        for text in (ASKING, PROGRAM):
            expected = self.run_of(10 ** 6, text, False)
            for size in (1, 2, 3, 7, 50, 333):
                for hold in (False, True):
                    found = self.run_of(size, text, hold)
                    self.assertEqual(found.hold(), expected.hold())
                    self.assertIs(found.same_as(expected), True)

    def test_programs_at_random(self):
        for seed in range(40):
            text = Writer(seed).text()
            expected = self.run_of(10 ** 6, text, False)
            found = self.run_of(97, text, True)
            self.assertEqual((found.hold(), found.state()), (expected.hold(), expected.state()))


class Tapes(unittest.TestCase):
    """A tape moved about at random, against the moves that it must have."""

    def machine_at(self, moves, place):
        twin = Twin(ASKING, ("ask",))
        twin.moves = moves[:place]
        return twin.machine()

    def tape(self, seed, many):
        chance = random.Random(seed)
        tape = Tape(begin(ASKING, ("ask",)))
        moves, place, end = [], 0, 0
        for _ in range(many):
            kind = chance.randint(0, 5)
            if kind <= 2:
                state, made = tape.forward(chance.choice((0, 1, 5, 40, 300)))
                self.assertEqual(state, tape.run().state())
                moves += [("step",)] * (place + made - len(moves))
                place += made
            elif kind == 3:
                back = chance.choice((0, 1, 2, 30, 1000))
                place = max(0, place - back)
                self.assertEqual(tape.back(back), place)
            elif tape.run().state() == "asking":
                if chance.randint(0, 2):
                    move = ("answer", chance.choice(DATA))
                    tape.answer(move[1])
                else:
                    move = ("refuse",) + chance.choice(REFUSALS)
                    tape.refuse(*move[1:])
                moves = moves[:place] + [move]
                place += 1
                end = place
            else:
                self.assertRaises(BadState, tape.answer, 1)
            end = max(end, place)
            self.assertEqual((tape.position(), tape.end()), (place, end))
            self.assertEqual(tape.run().hold(), write_machine(self.machine_at(moves, place), 0))

    def test_at_random(self):
        for seed in range(15):
            self.tape(seed, 40)


if __name__ == "__main__":
    unittest.main()
