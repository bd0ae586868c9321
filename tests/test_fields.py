"""The tables of the fields of objects and controls (h2, h3)."""

import unittest

from pyhold.fields import CONTROLS, OBJECTS
from pyhold.frames import FIELDS


class Fields(unittest.TestCase):
    def test_objects(self):
        self.assertEqual(list(OBJECTS.items()), [
            ("list", "V"), ("tuple", "V"), ("dict", "W"), ("scope", "Xttbt"), ("func", "xtXtta"),
            ("class", "xbX"), ("inst", "aX"), ("bound", "vv"), ("iter", "vnn"), ("gen", "xxF")])

    def test_controls(self):
        self.assertEqual(list(CONTROLS.items()), [
            ("eval", "ta"), ("exec", "ta"), ("store", "tva"), ("call", "vVX"), ("resume", "axv"),
            ("value", "v"), ("done", ""), ("leave", "s"), ("give", "v"), ("ask", "xV")])

    def test_letters(self):
        for table in (OBJECTS, CONTROLS, FIELDS):
            self.assertIs(type(table), dict)
            for letters in table.values():
                self.assertLessEqual(set(letters), set("vVWXtabnxsF"))


if __name__ == "__main__":
    unittest.main()
