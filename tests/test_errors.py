import unittest

from pyhold.errors import BadData, BadNumbers, BadState, Fault, HoldError, TooLong


class Errors(unittest.TestCase):
    def test_base(self):
        self.assertTrue(issubclass(HoldError, ValueError))
        for error in (Fault, BadData, BadState, TooLong, BadNumbers):
            self.assertTrue(issubclass(error, HoldError))

    def test_none_is_a_base_of_another(self):
        errors = (Fault, BadData, BadState, TooLong, BadNumbers)
        for one in errors:
            for other in errors:
                self.assertEqual(issubclass(one, other), one is other)

    def test_fault(self):
        fault = Fault(3, "invalid syntax")
        self.assertEqual((fault.line, fault.reason), (3, "invalid syntax"))
        named = Fault(line=4, reason="not a target")
        self.assertEqual((named.line, named.reason), (4, "not a target"))

    def test_without_arguments(self):
        for error in (BadData, BadState, TooLong):
            with self.assertRaises(HoldError):
                raise error()

    def test_bad_numbers(self):
        self.assertEqual(BadNumbers(7).place, 7)

    def test_messages(self):
        self.assertEqual(str(Fault(3, "invalid syntax")), "line 3: invalid syntax")
        self.assertEqual(str(BadNumbers(7)), "place 7")


if __name__ == "__main__":
    unittest.main()
