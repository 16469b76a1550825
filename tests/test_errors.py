"""The errors of the interface, with their attributes."""

import unittest

from lasttext import errors
from lasttext.errors import BadJournal, BadProgram, LastTextError, Refused

KINDS = (Refused, BadProgram, BadJournal)


class Errors(unittest.TestCase):
    def test_each_is_a_last_text_error_and_a_value_error(self):
        for kind in (LastTextError, *KINDS):
            self.assertTrue(issubclass(kind, LastTextError))
            self.assertTrue(issubclass(kind, ValueError))

    def test_each_is_none_of_the_others(self):
        for kind in KINDS:
            for other in KINDS:
                self.assertEqual(issubclass(kind, other), kind is other)
            self.assertFalse(issubclass(LastTextError, kind))

    def test_attributes_are_set_at_creation(self):
        self.assertEqual(Refused("start").reason, "start")
        self.assertEqual(BadProgram(7).line, 7)
        self.assertEqual(BadJournal(1).line, 1)

    def test_attributes_belong_to_each_object(self):
        first, second = BadProgram(1), BadProgram(2)
        self.assertEqual((first.line, second.line), (1, 2))
        for error in (Refused("start"), BadProgram(7), BadJournal(1)):
            self.assertEqual(len(vars(error)), 1)

    def test_raised_and_caught_by_each_base(self):
        for base in (Refused, LastTextError, ValueError):
            with self.assertRaises(base) as caught:
                raise Refused("no branch")
            self.assertEqual(caught.exception.reason, "no branch")

    def test_classes_are_defined_in_their_file(self):
        for name in ("LastTextError", "Refused", "BadProgram", "BadJournal"):
            self.assertEqual(getattr(errors, name).__module__, "lasttext.errors")


if __name__ == "__main__":
    unittest.main()
