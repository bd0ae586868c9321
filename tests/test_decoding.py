"""Reading what was written: back and forth, and the rules 1 and 2 of h10 with their places."""

import random
import unittest

from pyhold.coding import (
    write_control, write_count, write_frame, write_integer, write_object, write_string, write_tree, write_value)
from pyhold.decoding import (
    read_control, read_count, read_frame, read_integer, read_object, read_string, read_tree, read_value)
from pyhold.errors import BadNumbers
from pyhold.fields import CONTROLS, OBJECTS
from pyhold.frames import FIELDS
from tests.heaps import EDGE, YES
from tests.samples import SIGNALS, TREES, VALUES, samples


class Reading:
    """For a TestCase."""

    def reads(self, function, numbers, expected, **more):
        """It reads this from the beginning, and as well from further on, whatever stands behind."""
        before = list(numbers)
        for ahead in ([], [0], [300, -1, 255]):
            for behind in ([], [0], [255], [256, -5]):
                found = function(ahead + numbers + behind, len(ahead), **more)
                self.assertEqual(found, (expected, len(ahead) + len(numbers)))
                self.assertEqual(repr(found[0]), repr(expected))
                self.assertIs(type(found), tuple)
        self.assertEqual(numbers, before)

    def refuses(self, function, numbers, place, **more):
        for ahead in ([], [7], [300, -1, 255]):
            with self.assertRaises(BadNumbers) as caught:
                function(ahead + numbers, len(ahead), **more)
            self.assertEqual(caught.exception.place, len(ahead) + place, numbers)

    def ends(self, function, numbers, **more):
        """Where the numbers are cut off at any place, the end comes too early."""
        for at in range(len(numbers)):
            self.refuses(function, numbers[:at], at, **more)


class Plain(Reading, unittest.TestCase):
    def test_counts(self):
        for n in list(range(400)) + [128 ** k + d for k in range(2, 40) for d in (-1, 0, 1)] + [128 ** 40 - 1]:
            self.reads(read_count, write_count(n), n)
        self.assertEqual(read_count([9, 172, 2, 5], 1), (300, 3))

    def test_counts_that_are_wrong(self):
        for numbers, place in (
                ([], 0), ([128], 1), ([255, 255], 2), ([128, 0], 1), ([172, 128, 0], 2), ([172, 0], 1), ([256], 0),
                ([-1], 0), ([128, 256], 1), ([128, -1], 1), ([128] * 40, 40), ([128] * 40 + [1], 40),
                ([128] * 40 + [0], 40), ([128] * 40 + [300], 40), ([255] * 50, 40), ([128] * 39 + [0], 39),
                ([128] * 39, 39), ([10 ** 9], 0)):
            self.refuses(read_count, numbers, place)

    def test_integers(self):
        for i in [0, 1, -1, 63, -64, 64, 10 ** 50, EDGE - 1, 1 - EDGE, EDGE // 2, -EDGE // 2]:
            self.reads(read_integer, write_integer(i), i)
            self.ends(read_integer, write_integer(i))

    def test_integers_that_are_too_large(self):
        for i in (EDGE, -EDGE, EDGE + 1, EDGE * 2, -EDGE * 9, 2 ** 278):
            numbers = write_integer(i)
            self.refuses(read_integer, numbers, 0)
            self.refuses(read_integer, numbers + [300], 0)
            # The end, a last digit 0 and a 41st digit come ahead of the size.
            self.ends(read_integer, numbers)
            if len(numbers) < 40:
                self.refuses(read_integer, numbers[:-1] + [numbers[-1] + 128, 0], len(numbers))
            self.refuses(read_integer, [255] * 41, 40)

    def test_strings(self):
        for text in ("", "a", "hi\n ~", "x" * 200, "y" * 300):
            for most in (300, 1000, 100000):
                self.reads(read_string, write_string(text), text, most=most)
            self.reads(read_string, write_string(text), text, most=len(text))
            self.ends(read_string, write_string(text), most=300)

    def test_strings_that_are_wrong(self):
        for numbers, most, place in (
                ([1, 95], 5, 1), ([2, 0, 95], 5, 2), ([1, 255], 5, 1), ([1, 256], 5, 1), ([1, -1], 5, 1), ([6], 5, 0),
                ([6] + [0] * 6, 5, 0), ([1], 0, 0), ([172, 2], 299, 0), ([128, 0], 5, 1), ([172], 5, 1), ([127, 95], 5, 0),
                ([95, 95], 95, 1), ([128] * 41, 5, 40), ([], 5, 0)):
            self.refuses(read_string, numbers, place, most=most)

    def test_values(self):
        for value, numbers in VALUES:
            self.reads(read_value, numbers, value)
            self.ends(read_value, numbers)

    def test_values_at_their_bounds(self):
        for value in (("text", "x" * 1000), ("built", "x" * 200), ("host", "x" * 200), ("span", 1 - EDGE, EDGE - 1),
                      ("int", EDGE - 1), ("ref", 128 ** 40 - 1)):
            self.reads(read_value, write_value(value), value)
        for value, place in ((("text", "x" * 1001), 1), (("built", "x" * 201), 1), (("host", "x" * 201), 1),
                             (("span", EDGE, 0), 1), (("span", 0, -EDGE), 2), (("int", EDGE), 1), (("ref", 128 ** 40), 41)):
            self.refuses(read_value, write_value(value), place)

    def test_unknown_kinds_of_values(self):
        for number in (9, 10, 100, 128, 255, 256, -1):
            self.refuses(read_value, [number, 0, 0, 0], 0)

    def test_trees(self):
        for tree, numbers in TREES:
            self.reads(read_tree, numbers, tree)
            self.ends(read_tree, numbers)
        for tree in ("x" * 200, EDGE - 1, (False, 0, True, 1, "", "0", ()), ((),) * 300):
            self.reads(read_tree, write_tree(tree), tree)

    def test_trees_that_are_wrong(self):
        for numbers, place in (
                ([5], 0), ([128, 1], 0), ([0, 2, 3, 5], 3), ([0, 1, 1, 1, 95], 4), ([0, 2, 0, 0, 6], 4), ([256], 0),
                (write_tree("x" * 201), 1), (write_tree((EDGE,)), 3), ([0, 128, 0], 2), ([0, 5, 3, 3], 4)):
            self.refuses(read_tree, numbers, place)

    def nested(self, depth):
        tree = ()
        for _ in range(depth - 1):
            tree = (tree,)
        return tree

    def test_the_depth_of_trees(self):
        # 201 tuples: the innermost has 200 around it.
        self.reads(read_tree, write_tree(self.nested(200)), self.nested(200))
        self.refuses(read_tree, write_tree(self.nested(201)), 400)
        self.refuses(read_tree, [0, 1] * 200 + [0], 400)
        self.refuses(read_tree, [0, 1] * 200 + [0, 300], 400)
        self.refuses(read_tree, [0, 1] * 200, 400)
        leaf = [2, 6]
        self.assertEqual(read_tree([0, 1] * 200 + leaf, 0)[1], 402)
        wide = ("a", self.nested(199), True, self.nested(199), ())
        self.reads(read_tree, write_tree(wide), wide)
        self.refuses(read_tree, write_tree(("a", self.nested(200), True)), 5 + 398)

    def test_random_trees(self):
        chance = random.Random(5)

        def tree(depth):
            kind = chance.randint(0, 8)
            if kind < 5 and depth > 0:
                return tuple(tree(depth - 1) for _ in range(chance.randint(0, 4)))
            return chance.choice((True, False, 0, 1, -5, 300, "", "abc", "'\n"))

        for _ in range(200):
            made = tree(6)
            self.reads(read_tree, write_tree(made), made)
            self.ends(read_tree, write_tree(made)[:60])


class Kinds(Reading, unittest.TestCase):
    def test_each_kind(self):
        for table, write, read in (
                (OBJECTS, write_object, read_object), (FIELDS, write_frame, read_frame),
                (CONTROLS, write_control, read_control)):
            for item, _ in samples(table):
                numbers = write(item)
                self.reads(read, numbers, item)
                self.ends(read, numbers)

    def test_kinds_that_are_not_in_the_table(self):
        for table, read in ((OBJECTS, read_object), (FIELDS, read_frame), (CONTROLS, read_control)):
            for number in (len(table), len(table) + 1, 100, 127):
                self.refuses(read, [number, 0, 0, 0], 0)
            # A kind is looked at when its count has been read.
            self.refuses(read, write_count(300) + [0], 0)
            self.refuses(read, [200, 0], 1)
            self.refuses(read, [200], 1)
            self.refuses(read, [128] * 41, 40)
            self.refuses(read, [256], 0)
            self.refuses(read, [], 0)

    def test_signals(self):
        for signal in SIGNALS:
            self.reads(read_control, write_control(("leave", signal)), ("leave", signal))
            self.reads(read_frame, write_frame(("after", signal)), ("after", signal))
        for number in (5, 6, 128, 255, 256, -1):
            self.refuses(read_control, [7, number, 0], 1)

    def test_the_bounds_of_fields(self):
        long = "x" * 200
        for item in (("class", long, -1, ((long, YES),)), ("gen", long, long, (("body", long, 1 - EDGE),))):
            self.reads(read_object, write_object(item), item)
        for item, place in (
                (("class", long + "x", -1, ()), 1), (("class", "", -1, ((long + "x", YES),)), 4),
                (("class", "", -1, (("a", ("text", "x" * 1001)),)), 7), (("iter", YES, EDGE, 0), 2),
                (("gen", "", "", (("body", "", EDGE),)), 6), (("gen", "", "", (("want", long + "x"),)), 5)):
            self.refuses(read_object, write_object(item), place)

    def test_items_without_end(self):
        # The count says that there are very many, but the list ends.
        for numbers in ([0] + write_count(10 ** 30), [0] + write_count(10 ** 30) + [2] * 50):
            self.refuses(read_object, numbers, len(numbers))
        self.refuses(read_object, [0] + write_count(10 ** 30) + [2, 9], len(write_count(10 ** 30)) + 2)

    def test_new_each_time(self):
        numbers = [2]
        read_value(numbers, 0)
        self.assertEqual(numbers, [2])


if __name__ == "__main__":
    unittest.main()
