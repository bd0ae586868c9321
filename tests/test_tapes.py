"""Tapes (r9)."""

import inspect
import random
import unittest

from pyhold.errors import BadData, BadState
from pyhold.runs import Run, begin
from pyhold.tapes import Tape
from tests.test_runs import NO_COUNTS, NO_DATA, held

TEXT = "n = 0\nwhile True:\n    x = ask(n)\n    print(n, x)\n    n += 1\n    if n == 4:\n        break\n"


def asking():
    run = begin(TEXT, ("ask",), limit=1000)
    run.go(1000)
    return run


def by_hand(replies, place):
    """The run of the text behind so many moves, the replies being data by their places."""
    run = begin(TEXT, ("ask",), limit=1000)
    for at in range(place):
        if run.state() == "asking":
            run.answer(replies[at])
        else:
            assert run.go(1)[1] == 1
    return run


def told(tape):
    return (tape.position(), tape.end(), held(tape.run()))


class Beginning(unittest.TestCase):
    def test_a_new_tape(self):
        run = begin(TEXT, ("ask",), limit=77)
        tape = Tape(run)
        self.assertEqual((tape.position(), tape.end()), (0, 0))
        self.assertEqual(held(tape.run()), held(run))
        self.assertEqual(tape.run().limit, 77)

    def test_the_run_has_no_effect_on_it(self):
        run = asking()
        tape = Tape(run)
        before = told(tape)
        run.answer(5)
        run.go(10)
        run.set_limit(3)
        self.assertEqual(told(tape), before)
        run = asking()
        tape = Tape(run)
        before = held(run)
        tape.answer(7)
        tape.forward(9)
        self.assertEqual(held(run), before)

    def test_its_runs_have_no_effect_on_it(self):
        tape = Tape(asking())
        before = told(tape)
        run = tape.run()
        self.assertIsInstance(run, Run)
        run.answer(5)
        run.go(3)
        run.take()
        run.set_limit(None)
        self.assertEqual(told(tape), before)
        self.assertIsNot(tape.run(), tape.run())

    def test_methods_of_its_own(self):
        for name, parameters in (
                ("position", ""), ("end", ""), ("run", ""), ("forward", "many"), ("back", "many"), ("answer", "data"),
                ("refuse", "kind message")):
            self.assertEqual(list(inspect.signature(vars(Tape)[name]).parameters), ["self"] + parameters.split())
        self.assertEqual(list(inspect.signature(Tape).parameters), ["run"])

    def test_at_any_place_of_a_run(self):
        run = asking()
        run.answer(1)
        run.go(5)
        tape = Tape(run)
        self.assertEqual((tape.position(), held(tape.run())), (0, held(run)))
        self.assertEqual(tape.back(10), 0)
        tape.forward(3)
        run.go(3)
        self.assertEqual(held(tape.run()), held(run))


class Moving(unittest.TestCase):
    def test_forward(self):
        tape = Tape(begin("a = 1\nb = 2\n"))
        for many, expected, place in ((0, ("ready", 0), 0), (1, ("ready", 1), 1), (4, ("ready", 4), 5), (100, ("over", 4), 9),
                                      (100, ("over", 0), 9)):
            found = tape.forward(many)
            self.assertEqual((found, tape.position(), tape.end()), (expected, place, place))
            self.assertIs(type(found), tuple)

    def test_back(self):
        tape = Tape(begin("a = 1\nb = 2\n"))
        tape.forward(9)
        for many, place in ((0, 9), (1, 8), (3, 5), (100, 0), (5, 0)):
            self.assertEqual(tape.back(many), place)
            self.assertEqual((tape.position(), tape.end()), (place, 9))
            run = begin("a = 1\nb = 2\n")
            run.go(place)
            self.assertEqual(held(tape.run()), held(run))

    def test_requests(self):
        tape = Tape(begin(TEXT, ("ask",), limit=1000))
        state, first = tape.forward(1000)
        self.assertEqual((state, tape.position()), ("asking", first))
        self.assertEqual(tape.forward(5), ("asking", 0))
        tape.answer("a")
        self.assertEqual((tape.position(), tape.end(), tape.run().state()), (first + 1, first + 1, "ready"))
        state, more = tape.forward(1000)
        second = first + 1 + more
        self.assertEqual((state, tape.position(), tape.end()), ("asking", second, second))
        self.assertEqual(tape.back(1000), 0)
        # The reply that the tape has is a move.
        self.assertEqual(tape.forward(1000), ("asking", second))
        for place in range(second, -1, -1):
            self.assertEqual(tape.position(), place)
            self.assertEqual(held(tape.run()), held(by_hand({first: "a"}, place)))
            tape.back(1)
        self.assertEqual(tape.forward(first), ("asking", first))
        self.assertEqual(tape.forward(1), ("ready", 1))
        self.assertEqual(tape.end(), second)

    def test_wrong_counts(self):
        tape = Tape(begin("a = 1\n"))
        tape.forward(2)
        before = told(tape)
        for many in NO_COUNTS:
            self.assertRaises(BadData, tape.forward, many)
            self.assertRaises(BadData, tape.back, many)
            self.assertEqual(told(tape), before)

    def test_the_limit(self):
        run = begin("a = [1, 2]\nb = [a, a]\n", limit=47)
        tape = Tape(run)
        state, many = tape.forward(100)
        self.assertEqual((state, tape.forward(100)), ("full", ("full", 0)))
        for place in range(many, -1, -1):
            self.assertEqual((tape.position(), tape.run().limit), (place, 47))
            tape.back(1)
        run.set_limit(None)
        self.assertEqual(tape.forward(100), ("full", many))

    def test_the_output_that_was_taken(self):
        run = begin("print(1)\nprint(2)\n")
        run.go(8)
        run.take()
        tape = Tape(run)
        tape.forward(100)
        self.assertEqual(tape.run().take(), "2\n")
        self.assertEqual(tape.run().take(), "2\n")
        tape.back(100)
        self.assertEqual((tape.run().take(), tape.run().output), ("", "1\n"))


class Long(unittest.TestCase):
    """Tapes of so many moves that they keep runs at some places."""

    TEXT = "n = 0\nwhile n < 2000:\n    n += 1\n    if n // 100 * 100 == n:\n        ask(n)\n        print(n)\n"

    def test_back_and_forth(self):
        tape = Tape(begin(self.TEXT, ("ask",)))
        moves = 0
        while True:
            state, made = tape.forward(10 ** 6)
            moves += made
            if state == "over":
                break
            tape.answer(None)
            moves += 1
        self.assertEqual((tape.position(), tape.end()), (moves, moves))
        self.assertGreater(moves, 256 * 64)
        chance = random.Random(3)
        for _ in range(60):
            place = chance.choice((0, 1, moves, chance.randint(0, moves), chance.randint(0, 600)))
            tape.back(tape.position())
            tape.forward(chance.randint(place, moves))
            self.assertEqual(tape.back(tape.position() - place), place)
            self.assertEqual((tape.position(), tape.end()), (place, moves))
            self.assertEqual(tape.run().hold(), self.run_at(place).hold())

    def run_at(self, place):
        run = begin(self.TEXT, ("ask",))
        while place > 0:
            if run.state() == "asking":
                run.answer(None)
                place -= 1
            place -= run.go(place)[1]
        return run

    def test_another_reply_far_back(self):
        tape = Tape(begin(self.TEXT.replace("ask(n)\n", "m = ask(n)\n").replace("print(n)", "print(n, m)"), ("ask",)))
        places = []
        for _ in range(12):
            tape.forward(10 ** 6)
            places.append(tape.position())
            tape.answer("a")
        tape.back(tape.position() - places[4])
        tape.answer("b")
        self.assertEqual(tape.end(), places[4] + 1)
        self.assertEqual(tape.forward(10 ** 6)[0], "asking")
        self.assertEqual(tape.position(), places[5])
        tape.back(1)
        tape.forward(1)
        self.assertEqual(tape.run().output.split("\n")[3:], ["400 a", "500 b", ""])


class Replies(unittest.TestCase):
    def full_tape(self):
        """A tape on which all four requests were answered, and the places of the replies."""
        tape = Tape(begin(TEXT, ("ask",), limit=1000))
        places = []
        while tape.forward(1000)[0] == "asking":
            places.append(tape.position())
            tape.answer("abcd"[len(places) - 1])
        return tape, places

    def test_all_of_them(self):
        tape, places = self.full_tape()
        self.assertEqual((len(places), tape.run().state(), tape.end()), (4, "over", tape.position()))
        replies = dict(zip(places, "abcd"))
        for place in list(range(0, tape.end(), 11)) + places + [at + 1 for at in places]:
            tape.back(10 ** 6)
            tape.forward(place)
            self.assertEqual((tape.position(), held(tape.run())), (place, held(by_hand(replies, place))))

    def test_a_new_reply_cuts_off_what_stood_behind(self):
        for at in range(4):
            for reply in ("z", "abcd"[at]):
                tape, places = self.full_tape()
                tape.back(tape.end() - places[at])
                tape.answer(reply)
                self.assertEqual((tape.position(), tape.end()), (places[at] + 1, places[at] + 1))
                state, _ = tape.forward(1000)
                if at == 3:
                    self.assertEqual(state, "over")
                else:
                    # The later replies are gone.
                    self.assertEqual((state, tape.position(), tape.forward(10)), ("asking", places[at + 1], ("asking", 0)))
                tape.back(1000)
                tape.forward(1000)
                out = "".join(f"{k} {x}\n" for k, x in enumerate("abcd"[:at] + reply))
                self.assertEqual(tape.run().output, out)

    def test_a_refusal_in_place_of_an_answer(self):
        tape, places = self.full_tape()
        tape.back(tape.end() - places[1])
        self.assertIsNone(tape.refuse("KeyError", "no"))
        self.assertEqual((tape.end(), tape.position()), (places[1] + 1,) * 2)
        tape.forward(1000)
        self.assertEqual(tape.run().failure(), ("KeyError", "no"))
        end = tape.end()
        tape.back(1000)
        self.assertEqual(tape.forward(1000), ("failed", end))
        self.assertEqual(tape.run().failure(), ("KeyError", "no"))

    def test_a_reply_at_the_end(self):
        tape, places = self.full_tape()
        tape.back(tape.end() - places[0])
        tape.answer("z")
        tape.back(1)
        tape.answer("y")
        tape.forward(1000)
        self.assertEqual((tape.run().output, tape.end()), ("0 y\n", tape.position()))

    def test_steps_behind_do_not_cut_off(self):
        tape, places = self.full_tape()
        end = tape.end()
        tape.back(1000)
        tape.forward(places[2] - 1)
        self.assertEqual(tape.end(), end)
        tape.forward(1)
        self.assertEqual(tape.end(), end)
        self.assertEqual(tape.forward(1000)[0], "over")
        self.assertEqual(tape.end(), end)

    def test_wrong_replies_change_nothing(self):
        tape, places = self.full_tape()
        tape.back(tape.end() - places[1])
        before = told(tape)
        for data in NO_DATA:
            self.assertRaises(BadData, tape.answer, data)
            self.assertEqual(told(tape), before)
        for kind, message in (("no", "a"), ("KeyError", 5), ("KeyError", "%")):
            self.assertRaises(BadData, tape.refuse, kind, message)
            self.assertEqual(told(tape), before)
        self.assertEqual(tape.forward(1000)[0], "over")

    def test_replies_where_none_is_due(self):
        tape, _ = self.full_tape()
        for many in (0, 1, 10 ** 6):
            tape.back(many)
            before = told(tape)
            for data in (1,) + NO_DATA:
                self.assertRaises(BadState, tape.answer, data)
            self.assertRaises(BadState, tape.refuse, "KeyError", "a")
            self.assertRaises(BadState, tape.refuse, "no", 5)
            self.assertEqual(told(tape), before)

    def test_data_are_not_kept(self):
        tape = Tape(asking())
        data = [1, {"a": [2]}]
        tape.answer(data)
        data.append(3)
        data[1]["a"].append(4)
        tape.back(1)
        tape.forward(100)
        self.assertEqual(tape.run().output, "0 [1, {'a': [2]}]\n")
        self.assertEqual(data, [1, {"a": [2, 4]}, 3])


if __name__ == "__main__":
    unittest.main()
