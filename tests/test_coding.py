"""The written form (h8)."""

import unittest

from pyhold.coding import (
    write_control, write_count, write_frame, write_integer, write_object, write_string, write_tree, write_value)
from pyhold.core import CHARACTERS
from pyhold.fields import CONTROLS, OBJECTS
from pyhold.frames import FIELDS
from tests.heaps import NONE, YES
from tests.samples import SIGNALS, TREES, VALUES, samples


class Plain(unittest.TestCase):
    def test_counts(self):
        for n, numbers in (
                (0, [0]), (1, [1]), (127, [127]), (128, [128, 1]), (129, [129, 1]), (255, [255, 1]), (300, [172, 2]),
                (128 ** 2 - 1, [255, 127]), (128 ** 2, [128, 128, 1]), (128 ** 3 + 5, [133, 128, 128, 1]),
                (128 ** 39, [128] * 39 + [1]), (128 ** 40 - 1, [255] * 39 + [127])):
            self.assertEqual(write_count(n), numbers)

    def test_integers(self):
        for i, numbers in (
                (0, [0]), (1, [2]), (-1, [1]), (-3, [5]), (3, [6]), (63, [126]), (64, [128, 1]), (-64, [127]),
                (-65, [129, 1]), (2 ** 256 - 1, [254] + [255] * 35 + [31]), (1 - 2 ** 256, [253] + [255] * 35 + [31])):
            self.assertEqual(write_integer(i), numbers)

    def test_strings(self):
        self.assertEqual(write_string("hi"), [2, 72, 73])
        self.assertEqual(write_string(""), [0])
        self.assertEqual(write_string("\n ~"), [3, 0, 1, 94])
        self.assertEqual(write_string(CHARACTERS), [95] + list(range(95)))
        self.assertEqual(write_string("a" * 300), [172, 2] + [65] * 300)

    def test_values(self):
        for value, numbers in VALUES:
            self.assertEqual(write_value(value), numbers)

    def test_trees(self):
        for tree, numbers in TREES:
            self.assertEqual(write_tree(tree), numbers)
        self.assertEqual(
            write_tree(("const", ("bool", True))),
            [0, 2, 1, 5, 67, 79, 78, 83, 84, 0, 2, 1, 4, 66, 79, 79, 76, 4])
        self.assertEqual(write_tree((0,) * 200), [0, 200, 1] + [2, 0] * 200)

    def test_deep_trees(self):
        tree = ()
        for _ in range(1000):
            tree = (tree,)
        self.assertEqual(write_tree(tree), [0, 1] * 1000 + [0, 0])


# What is written for the fields of tests.samples.
WRITTEN = {
    "v": [8, 30], "V": [4, 8, 31, 0, 8, 0, 8, 31], "W": [3, 8, 32, 8, 33, 0, 2, 3, 10, 8, 34],
    "X": [3, 1, 65, 8, 35, 1, 66, 2, 1, 67, 8, 36],
    "t": [0, 3, 1, 2, 68, 79, 2, 6, 0, 2, 1, 5, 67, 79, 78, 83, 84, 0, 2, 1, 3, 73, 78, 84, 2, 74],
    "a": [38], "b": [40], "n": [79], "x": [2, 20, 17], "s": [4, 8, 42],
}
WRITTEN["F"] = [3, 3, 1, 11, 8, 43, 51, 1, 70, 88, 54, 0, 2, 1, 4, 80, 65, 83, 83, 2, 2, 45]


class Kinds(unittest.TestCase):
    def check(self, table, function):
        for at, (item, _) in enumerate(samples(table)):
            numbers = [at]
            for letter in table[item[0]]:
                numbers.extend(WRITTEN[letter])
            self.assertEqual(function(item), numbers, item)

    def test_objects(self):
        self.check(OBJECTS, write_object)

    def test_frames(self):
        self.check(FIELDS, write_frame)

    def test_controls(self):
        self.check(CONTROLS, write_control)

    def test_the_example(self):
        self.assertEqual(write_object(("tuple", (NONE, ("ref", 17)))), [1, 2, 0, 8, 17])

    def test_numbers_of_kinds(self):
        self.assertEqual(write_frame(("neg",)), [0])
        self.assertEqual(write_frame(("default", NONE)), [len(FIELDS) - 1, 0])
        self.assertEqual(write_control(("done",)), [6])
        self.assertEqual(write_object(("gen", "", "", ())), [9, 0, 0, 0])

    def test_no_number_and_signals(self):
        self.assertEqual(write_object(("class", "K", -1, ())), [5, 1, 43, 0, 0])
        self.assertEqual(write_object(("class", "K", 0, ())), [5, 1, 43, 1, 0])
        self.assertEqual(write_object(("class", "K", 127, ())), [5, 1, 43, 128, 1, 0])
        written = ([0], [1], [2], [3, 2], [4, 8, 5])
        for signal, numbers in zip(SIGNALS, written):
            self.assertEqual(write_control(("leave", signal)), [7] + numbers)

    def test_many_items(self):
        self.assertEqual(write_object(("list", (YES,) * 300)), [0, 172, 2] + [2] * 300)
        self.assertEqual(write_object(("dict", ((NONE, YES),) * 128)), [2, 128, 1] + [0, 2] * 128)

    def test_new_each_time(self):
        one = write_value(YES)
        one.append(5)
        self.assertEqual(write_value(YES), [2])


if __name__ == "__main__":
    unittest.main()
