"""Runs (r4 to r8, c12)."""

import inspect
import unittest

from pyhold.compiling import compile_text
from pyhold.core import BUILT, CLASSES
from pyhold.errors import BadData, BadNumbers, BadState, Fault, TooLong
from pyhold.holding import read_machine, write_machine
from pyhold.machine import start, step
from pyhold.reach import live_size
from pyhold.runs import Run, begin, replay, restore
from tests.samples import PROGRAM
from tests.test_holding import Parts

NO_COUNTS = (-1, True, False, 1.0, "1", None, (), [1])
NO_LIMITS = (-1, True, False, 1.0, "1", (), -10 ** 30)
NO_DATA = (1.5, 2 ** 256, "%", "x" * 1001, set(), [[[[[[[1]]]]]]], [1] * 1000, {"a": 1.5}, b"a", len, "\t")
ASKING = "a = 1\nx = ask(a, [2, (3,)], {'k': None})\nprint(x)\n"


def held(run):
    """All of a run that can be seen from outside, but for its limit and the output that was not taken."""
    return (run.hold(), run.state(), run.step_count, run.output, run.limit, run.size(), run.where(), run.failure())


def machine_behind(text, many, hosts=()):
    machine = start(compile_text(text), hosts)
    for _ in range(many):
        step(machine)
    return machine


class Begin(unittest.TestCase):
    def test_a_new_run(self):
        run = begin("a = 1\n")
        self.assertIsInstance(run, Run)
        self.assertEqual((run.limit, run.step_count, run.output, run.state(), run.where()),
                         (None, 0, "", "ready", ("module", 1)))
        self.assertEqual(run.hold(), write_machine(start(compile_text("a = 1\n"), ()), 0))
        run = begin("a = 1\n", ("ask", "tell"), limit=70)
        self.assertEqual(run.limit, 70)
        self.assertEqual(run.hold(), write_machine(start(compile_text("a = 1\n"), ("ask", "tell")), 0))

    def test_the_signature(self):
        self.assertEqual(str(inspect.signature(begin)), "(text, hosts=(), *, limit=None)")
        self.assertEqual(str(inspect.signature(restore)), "(numbers, *, limit=None)")
        self.assertEqual(str(inspect.signature(replay)), "(text, hosts, replies, steps)")

    def test_names_of_hosts(self):
        for hosts in ((), ("a",), ("_",), ("_a1", "A"), ("x" * 30,), tuple(f"h{k}" for k in range(100)), ("op_add", "self")):
            begin("", hosts)
        for name in ("", "1a", "a b", "a-b", "a.b", " a", "a ", "a\n", "x" * 31, "mod", "if", "None", "True", "yield",
                     "a%", "\u00e9", "a\u00b2", "\u0661", "Exception", "HostError", "print", "abs"):
            self.assertRaises(BadData, begin, "", (name,))
            self.assertRaises(BadData, begin, "", ("a", name, "b"))
        for name in CLASSES + BUILT:
            self.assertRaises(BadData, begin, "", (name,))
        self.assertRaises(BadData, begin, "", ("a", "b", "a"))
        self.assertRaises(BadData, begin, "", tuple(f"h{k}" for k in range(101)))

    def test_limits(self):
        for limit in NO_LIMITS:
            with self.assertRaises(BadData):
                begin("", limit=limit)
        for limit in (None, 0, 1, 10 ** 30):
            self.assertEqual(begin("", limit=limit).limit, limit)

    def test_no_program(self):
        with self.assertRaises(Fault) as caught:
            begin("a = 1\nbreak")
        self.assertEqual((caught.exception.line, caught.exception.reason), (2, "break outside a loop"))

    def test_what_comes_first(self):
        self.assertRaises(BadData, begin, "1 =", ("print",))
        with self.assertRaises(BadData):
            begin("1 =", limit=-1)

    def test_hosts_are_called_by_name(self):
        run = begin("x = ask\ndef f():\n    return x(1)\nf()\n", ("ask",))
        self.assertEqual((run.go(100)[0], run.request(), run.where()), ("asking", ("ask", [1]), ("f", 3)))


class States(unittest.TestCase):
    def test_states(self):
        run = begin(ASKING, ("ask",))
        self.assertEqual(run.state(), "ready")
        self.assertEqual(run.go(1000), ("asking", run.step_count))
        run.answer("yes")
        self.assertEqual(run.state(), "ready")
        self.assertEqual(run.go(1000)[0], "over")
        self.assertEqual((run.state(), run.take(), run.failure()), ("over", "yes\n", None))
        run = begin("x\n")
        self.assertEqual(run.go(1000), ("failed", 3))
        self.assertEqual((run.state(), run.failure()), ("failed", ("NameError", "not bound: x")))

    def test_full(self):
        run = begin("a = [1, 2, 3]\n", limit=46)
        self.assertEqual(run.size(), 46)
        self.assertEqual((run.state(), run.go(100)[0]), ("ready", "full"))
        self.assertEqual(run.size(), 47)
        before = run.hold()
        self.assertEqual(run.go(100), ("full", 0))
        self.assertEqual(run.hold(), before)
        run.set_limit(47)
        self.assertEqual((run.state(), run.go(1)), ("ready", ("full", 1)))
        run.set_limit(None)
        self.assertEqual(run.go(100)[0], "over")

    def test_full_comes_behind_the_others(self):
        for text, state in (("ask()\n", "asking"), ("", "over"), ("x\n", "failed")):
            run = begin(text, ("ask",))
            self.assertEqual(run.go(100)[0], state)
            run.set_limit(0)
            self.assertEqual(run.state(), state)
        run = begin("a = 1\n", limit=0)
        self.assertEqual((run.state(), run.go(5)), ("full", ("full", 0)))

    def test_a_reply_into_a_full_run(self):
        run = begin("x = ask()\n", ("ask",), limit=60)
        run.go(100)
        run.answer([1] * 20)
        self.assertEqual((run.state(), run.go(5)[1]), ("full", 0))

    def test_states_of_a_machine_that_is_nearly_at_rest(self):
        for control, frames, state in (
                (("done",), [("ret",)], "ready"), (("leave", ("return", ("none",))), [], "ready"),
                (("leave", ("raise", ("ref", 17))), [("ret",)], "ready"), (("ask", "f", ()), [("ret",)], "asking"),
                (("leave", ("raise", ("ref", 17))), [], "failed"), (("done",), [], "over")):
            parts = Parts(control=control, frames=frames)
            if control[0] == "leave" and control[1][0] == "raise":
                parts.heap = parts.heap + [("inst", 7, (("args", ("int", 5)),))]
            run = restore(parts.numbers())
            self.assertEqual(run.state(), state)


class Going(unittest.TestCase):
    def test_counts(self):
        run = begin("a = 1\nb = 2\n")
        for many, expected in ((0, ("ready", 0)), (1, ("ready", 1)), (3, ("ready", 3)), (100, ("over", 5)), (100, ("over", 0)),
                               (0, ("over", 0))):
            found = run.go(many)
            self.assertEqual(found, expected)
            self.assertIs(type(found), tuple)
        self.assertEqual(run.step_count, 9)

    def test_wrong_counts(self):
        run = begin("a = 1\n")
        before = held(run)
        for many in NO_COUNTS:
            self.assertRaises(BadData, run.go, many)
        self.assertEqual(held(run), before)

    def test_each_step(self):
        for many in (1, 2, 3, 7, 50):
            run = begin(PROGRAM, ("ask",))
            steps = 0
            while run.state() == "ready":
                steps += run.go(many)[1]
                self.assertEqual(run.step_count, steps)
                machine = machine_behind(PROGRAM, steps, ("ask",))
                self.assertEqual(run.hold(), write_machine(machine, 0))
                self.assertEqual((run.where(), run.size()), ((machine.here, machine.line), live_size(machine)))

    def test_where(self):
        run = begin("a = 1\n\ndef f(n):\n    a\n    return n\nf(2)\n")
        seen = []
        while run.state() == "ready":
            run.go(1)
            if run.where() not in seen:
                seen.append(run.where())
        self.assertEqual(seen, [("module", 1), ("module", 3), ("module", 6), ("f", 6), ("f", 4), ("f", 5)])


class Limits(unittest.TestCase):
    def test_wrong_limits(self):
        run = begin("a = 1\n", limit=50)
        before = held(run)
        for limit in NO_LIMITS:
            self.assertRaises(BadData, run.set_limit, limit)
        self.assertEqual(held(run), before)
        for limit in (0, None, 5):
            self.assertIsNone(run.set_limit(limit))
            self.assertEqual(run.limit, limit)

    def test_properties(self):
        for name in ("limit", "step_count", "output"):
            self.assertIsInstance(vars(Run)[name], property)

    def test_methods_of_its_own(self):
        for name in ("set_limit state size where go request answer refuse take failure twin hold same_as").split():
            self.assertTrue(inspect.isfunction(vars(Run)[name]), name)


class Replies(unittest.TestCase):
    def asking(self):
        run = begin(ASKING, ("ask",))
        run.go(1000)
        return run

    def test_the_request(self):
        run = begin(ASKING, ("ask",))
        while run.state() == "ready":
            self.assertIsNone(run.request())
            run.go(1)
        found = run.request()
        self.assertEqual(found, ("ask", [1, [2, (3,)], {"k": None}]))
        self.assertEqual([type(part) for part in found], [str, list])
        found[1][1].append(5)
        found[1].append(6)
        self.assertEqual(run.request(), ("ask", [1, [2, (3,)], {"k": None}]))
        run.answer(1)
        self.assertIsNone(run.request())

    def test_an_answer(self):
        for data, shown in ((1, "1"), (None, "None"), ("a", "a"), ([1, (True,)], "[1, (True,)]"), ({"a": []}, "{'a': []}")):
            run = self.asking()
            steps = run.step_count
            self.assertIsNone(run.answer(data))
            self.assertEqual((run.state(), run.step_count), ("ready", steps))
            run.go(1000)
            self.assertEqual((run.state(), run.output), ("over", shown + "\n"))

    def test_data_are_not_kept(self):
        run = self.asking()
        data = [1, {"a": [2]}]
        run.answer(data)
        data[1]["a"].append(3)
        data.append(4)
        run.go(1000)
        self.assertEqual(run.output, "[1, {'a': [2]}]\n")

    def test_a_list_that_occurs_twice(self):
        run = begin("x = ask()\nx[0].append(1)\nprint(x)\n", ("ask",))
        run.go(100)
        row = []
        run.answer([row, row])
        run.go(100)
        self.assertEqual(run.output, "[[1], []]\n")

    def test_a_refusal(self):
        for kind in CLASSES:
            for message in ("", "no", "x" * 1000, "'\n~"):
                run = self.asking()
                steps = run.step_count
                self.assertIsNone(run.refuse(kind, message))
                self.assertEqual((run.state(), run.step_count), ("ready", steps))
                run.go(1000)
                self.assertEqual((run.state(), run.failure()), ("failed", (kind, message)))

    def test_a_refusal_that_is_caught(self):
        run = begin("try:\n    ask()\nexcept LookupError as e:\n    print(e.args)\n", ("ask",))
        run.go(100)
        run.refuse("KeyError", "k")
        self.assertEqual((run.go(100)[0], run.output), ("over", "('k',)\n"))

    def test_wrong_data(self):
        run = self.asking()
        before = held(run)
        for data in NO_DATA:
            self.assertRaises(BadData, run.answer, data)
            self.assertEqual(held(run), before)

    def test_wrong_refusals(self):
        run = self.asking()
        before = held(run)
        for kind, message in (("", "a"), ("Nothing", "a"), ("print", "a"), ("keyerror", "a"), (None, "a"), (7, "a"),
                              (["KeyError"], "a"), ("KeyError", "%"), ("KeyError", "x" * 1001), ("KeyError", 5),
                              ("KeyError", None), ("KeyError", "\t"), ("KeyError", ("a",)), ("KeyError", b"a")):
            self.assertRaises(BadData, run.refuse, kind, message)
            self.assertEqual(held(run), before)

    def test_replies_where_none_is_due(self):
        for text, many in (("a = 1\n", 0), ("a = 1\n", 2), ("a = 1\n", 100), ("x\n", 100)):
            run = begin(text)
            run.go(many)
            before = held(run)
            for data in (1,) + NO_DATA:
                self.assertRaises(BadState, run.answer, data)
            for kind, message in (("KeyError", "a"), ("no", "a"), ("KeyError", 5)):
                self.assertRaises(BadState, run.refuse, kind, message)
            self.assertEqual(held(run), before)


class Output(unittest.TestCase):
    def test_taking(self):
        run = begin("print(1)\nprint('ab')\n")
        run.go(6)
        self.assertEqual((run.output, run.take()), ("", ""))
        run.go(1)
        self.assertEqual((run.output, run.take(), run.take()), ("1\n", "1\n", ""))
        run.go(100)
        self.assertEqual((run.output, run.take(), run.take(), run.output), ("1\nab\n", "ab\n", "", "1\nab\n"))

    def test_the_whole_output_is_bounded_whatever_was_taken(self):
        run = begin("a = 'x' * 999\nwhile True:\n    print(a)\n")
        taken = 0
        while run.state() == "ready":
            run.go(500)
            taken += len(run.take())
        self.assertEqual((taken, run.failure()), (100000, ("MemoryError", "too large")))


class Failures(unittest.TestCase):
    def check(self, text, expected):
        run = begin(text)
        while run.state() == "ready":
            self.assertIsNone(run.failure())
            run.go(1)
        found = run.failure()
        self.assertEqual(found, expected)
        self.assertIs(type(found), tuple)

    def test_texts(self):
        self.check("x\n", ("NameError", "not bound: x"))
        self.check("raise KeyError('a')\n", ("KeyError", "a"))
        self.check("raise KeyError('')\n", ("KeyError", ""))
        self.check("raise KeyError\n", ("KeyError", ""))
        self.check("raise KeyError('a', 'b')\n", ("KeyError", ""))
        self.check("raise KeyError(5)\n", ("KeyError", ""))
        self.check("raise KeyError(('a',))\n", ("KeyError", ""))
        self.check("class Mine(ValueError):\n    pass\nraise Mine('it')\n", ("Mine", "it"))

    def test_args_that_were_changed(self):
        text = "e = KeyError('a')\ne.args = {}\nraise e\n"
        self.check(text.format("('b',)"), ("KeyError", "b"))
        for args in ("'b'", "['b']", "5", "None", "()", "('a', 'b')", "KeyError('b')", "(1,)", "{'b': 1}"):
            self.check(text.format(args), ("KeyError", ""))


    def test_what_no_program_raises(self):
        for value, name in ((("int", 5), "int"), (("ref", 7), "class"), (("text", "a"), "str")):
            run = restore(Parts(control=("leave", ("raise", value))).numbers())
            self.assertEqual((run.state(), run.failure()), ("failed", (name, "")))
        run = restore(Parts(control=("leave", ())).numbers())
        self.assertEqual((run.state(), run.failure()), ("ready", None))


class Twins(unittest.TestCase):
    def test_an_equal_run(self):
        run = begin(PROGRAM, ("ask",), limit=900)
        run.go(150)
        run.take()
        run.go(100)
        twin = run.twin()
        self.assertIsInstance(twin, Run)
        self.assertEqual(held(twin), held(run))
        self.assertEqual((twin.take(), twin.same_as(run)), (run.take(), True))

    def test_neither_has_an_effect_on_the_other(self):
        run = begin(ASKING, ("ask",), limit=500)
        run.go(1000)
        twin = run.twin()
        before = held(run)
        twin.answer([1])
        twin.set_limit(3)
        twin.set_limit(None)
        twin.go(1000)
        twin.take()
        self.assertEqual(held(run), before)
        after = held(twin)
        run.answer(2)
        run.go(1000)
        self.assertEqual((held(twin), twin.output, run.output), (after, "[1]\n", "2\n"))

    def test_at_each_step(self):
        run = begin(PROGRAM, ("ask",))
        twins = []
        while run.state() == "ready":
            twins.append((run.twin(), held(run)))
            run.go(7)
        for twin, before in twins:
            self.assertEqual(held(twin), before)
            twin.go(1000)
            self.assertEqual(held(twin), held(run))


class Holding(unittest.TestCase):
    def test_back(self):
        run = begin(PROGRAM, ("ask",))
        while run.state() == "ready":
            run.go(13)
            if run.step_count % 2:
                run.take()
            numbers = run.hold()
            again = restore(numbers)
            self.assertIsInstance(again, Run)
            self.assertEqual(again.limit, None)
            self.assertEqual(held(again), held(run))
            self.assertIs(again.same_as(run), True)
            self.assertEqual(again.twin().take(), run.twin().take())

    def test_it_goes_on(self):
        run = begin(PROGRAM, ("ask",))
        run.go(90)
        again = restore(run.hold())
        for other in (run, again):
            for data in ([1, 2], "b", "c", "d"):
                other.go(1000)
                if other.state() == "asking":
                    other.answer(data)
        self.assertEqual(held(again), held(run))
        self.assertEqual(run.state(), "over")

    def test_the_limit_is_no_part_of_it(self):
        run = begin("a = 1\n", limit=10)
        numbers = run.hold()
        run.set_limit(None)
        self.assertEqual(run.hold(), numbers)
        self.assertEqual(restore(numbers, limit=70).limit, 70)

    def test_refusals(self):
        numbers = begin("a = 1\n").hold()
        for limit in NO_LIMITS:
            with self.assertRaises(BadData):
                restore(numbers, limit=limit)
            with self.assertRaises(BadData):
                restore([], limit=limit)
            with self.assertRaises(BadData):
                restore([1] * 1000001, limit=limit)
        self.assertRaises(TooLong, restore, [7] * 1000001)
        for wrong, place in (([], 0), ([2], 0), (numbers[:-1], len(numbers) - 1), (numbers + [0], len(numbers))):
            with self.assertRaises(BadNumbers) as caught:
                restore(wrong)
            self.assertEqual(caught.exception.place, place)

    def test_too_long(self):
        run = begin("a = []\nwhile len(a) < 1000:\n    a.append('x' * 1000)\n")
        run.go(100000)
        self.assertEqual(run.state(), "over")
        self.assertRaises(TooLong, run.hold)
        self.assertEqual(run.state(), "over")
        self.assertGreater(run.size(), 1000000)

    def test_as_a_machine(self):
        run = begin("print(1)\nprint(2)\n")
        run.go(8)
        run.take()
        machine, taken = read_machine(run.hold())
        self.assertEqual((taken, machine.out, machine.steps), (2, "1\n", 8))


class Same(unittest.TestCase):
    def test_the_same(self):
        one, other = begin("a = 1\nprint(a)\n"), begin("a = 1\nprint(a)\n", limit=90)
        for _ in range(20):
            self.assertIs(one.same_as(other), True)
            one.go(1)
            other.go(1)

    def test_not_the_same(self):
        one, other = begin("a = 1\nprint(a)\n"), begin("a = 1\nprint(a)\n")
        one.go(1)
        self.assertIs(one.same_as(other), False)
        one.go(100)
        other.go(100)
        self.assertIs(one.same_as(other), True)
        one.take()
        self.assertIs(one.same_as(other), False)
        other.take()
        self.assertIs(one.same_as(other), True)
        self.assertIs(one.same_as(begin("a = 1\nprint(a)\n", ("ask",))), False)

    def test_by_held_runs(self):
        runs = []
        for text in ("a = 1\n", "a = 2\n", "a = 1\nb = 1\n", "a = True\n", "a = '1'\n", "a = [1]\n"):
            for many in (0, 3, 4, 9):
                run = begin(text)
                run.go(many)
                runs.append(run)
        for one in runs:
            for other in runs:
                self.assertIs(one.same_as(other), one.hold() == other.hold())


class Replay(unittest.TestCase):
    TEXT = "a = ask(1)\nprint(a)\ntry:\n    ask(2)\nexcept KeyError as e:\n    print(e.args)\nprint(ask(3))\n"
    REPLIES = [("answer", [1]), ("refuse", "KeyError", "no"), ("answer", None)]

    def by_hand(self, steps, replies):
        run = begin(self.TEXT, ("ask",))
        waiting = list(replies)
        while run.step_count < steps and run.state() in ("ready", "asking"):
            if run.state() == "asking":
                if not waiting:
                    break
                reply = waiting.pop(0)
                if reply[0] == "answer":
                    run.answer(reply[1])
                else:
                    run.refuse(reply[1], reply[2])
            run.go(1)
        return run

    def test_each_number_of_steps(self):
        for many in range(4):
            for steps in range(70):
                replies = list(self.REPLIES[:many])
                run = replay(self.TEXT, ("ask",), replies, steps)
                self.assertIsInstance(run, Run)
                self.assertEqual(held(run), held(self.by_hand(steps, replies)))
                self.assertEqual(replies, self.REPLIES[:many])
                self.assertLessEqual(run.step_count, steps)

    def test_to_the_end(self):
        run = replay(self.TEXT, ("ask",), self.REPLIES + [("answer", 5)], 10 ** 9)
        self.assertEqual((run.state(), run.take()), ("over", "[1]\n('no',)\nNone\n"))
        run = replay("x\n", (), [], 10 ** 9)
        self.assertEqual((run.state(), run.step_count, run.limit), ("failed", 3, None))

    def test_a_request_where_the_steps_are_made(self):
        steps = replay(self.TEXT, ("ask",), [], 1000).step_count
        for more, state in ((0, "asking"), (1, "ready")):
            run = replay(self.TEXT, ("ask",), self.REPLIES, steps + more)
            self.assertEqual((run.state(), run.step_count), (state, steps + more))

    def test_wrong_steps(self):
        for steps in NO_COUNTS:
            self.assertRaises(BadData, replay, "a = 1\n", (), [], steps)
            self.assertRaises(BadData, replay, "1 =", (), [], steps)

    def test_as_begin(self):
        self.assertRaises(BadData, replay, "1 =", ("print",), [], 5)
        self.assertRaises(Fault, replay, "1 =", (), [5], 5)

    def test_wrong_replies(self):
        for reply in (("answer", 1.5), ("answer", "%"), ("answer",), ("answer", 1, 2), ("refuse", "KeyError"), (),
                      ("refuse", "no", "a"), ("refuse", "KeyError", 5), ("refuse", "KeyError", "%"), ("reply", 1), None, 5,
                      "answer", ["answer", 1], (1, 2), (None, "KeyError", "a"), ("refuse", "KeyError", "a", "b")):
            self.assertRaises(BadData, replay, self.TEXT, ("ask",), [reply], 1000)
            self.assertRaises(BadData, replay, self.TEXT, ("ask",), self.REPLIES[:2] + [reply], 1000)
            # A reply that is not due is not looked at.
            replay(self.TEXT, ("ask",), [reply], 3)
            replay(self.TEXT, ("ask",), self.REPLIES + [reply], 1000)

    def test_replies_are_not_kept(self):
        data = [1]
        run = replay(self.TEXT, ("ask",), [("answer", data)], 10)
        data.append(2)
        run.go(100)
        self.assertEqual(run.output, "[1]\n")


if __name__ == "__main__":
    unittest.main()
