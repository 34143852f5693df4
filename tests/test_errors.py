"""The section "Errors": the classes, where they stand, and their attributes."""

import unittest

from calltakers import errors
from samples import Stranger

PLAIN = ["BadValue", "BadPattern", "BadExpectation", "NotFree", "NotKept", "NoIndex", "Conflicted", "NoConflict",
         "NotWon", "NoState", "Lost", "BadHands", "NoOrder", "NotAllowed", "BadCount", "BadOrder"]
HOLDING = {"BadCall": "path", "BadPlan": "index", "NoName": "name", "BadRecord": "index", "BadMove": "name",
           "BadResult": "index", "BadRule": "index", "Faulted": "word", "Unexpected": "what", "Undecided": "could",
           "Missing": "lacking", "NoPlace": "name", "BadName": "name", "BadText": "row"}
PASSED = [None, True, 0, 3, -1, "", "word", (), ("a", "b"), [], [("a", (), ())], {"a": 1}, ([],), Stranger()]


class Errors(unittest.TestCase):

    def classes(self):
        return [getattr(errors, name) for name in PLAIN + list(HOLDING)]

    def test_there_are_thirty_and_their_base(self):
        defined = {name for name, thing in vars(errors).items() if isinstance(thing, type)}
        self.assertEqual(defined, {"TakerError", *PLAIN, *HOLDING})
        self.assertEqual(len(self.classes()), 30)

    def test_where_they_stand(self):
        self.assertEqual(errors.TakerError.__bases__, (ValueError,))
        for error in self.classes():
            self.assertEqual(error.__bases__, (errors.TakerError,), error)
            self.assertEqual(error.__module__, "calltakers.errors")

    def test_the_attribute_holds_what_was_passed_by_position(self):
        for name, attribute in HOLDING.items():
            for thing in PASSED:
                error = getattr(errors, name)(thing)
                self.assertIs(getattr(error, attribute), thing, name)
                self.assertEqual(vars(error), {attribute: thing})

    def test_the_attribute_holds_what_was_passed_by_name(self):
        for name, attribute in HOLDING.items():
            for thing in PASSED:
                error = getattr(errors, name)(**{attribute: thing})
                self.assertIs(getattr(error, attribute), thing, name)

    def test_errors_with_an_attribute_need_it_and_no_more(self):
        for name in HOLDING:
            with self.assertRaises(TypeError, msg=name):
                getattr(errors, name)()
            with self.assertRaises(TypeError, msg=name):
                getattr(errors, name)(1, 2)

    def test_the_others_are_made_of_a_text(self):
        for name in PLAIN + ["TakerError"]:
            error = getattr(errors, name)("what is wrong")
            self.assertEqual((str(error), vars(error)), ("what is wrong", {}), name)

    def test_each_is_caught_as_itself_and_above_and_not_as_another(self):
        for error in self.classes():
            made = error("thing")
            for kind in (error, errors.TakerError, ValueError):
                with self.assertRaises(kind):
                    raise made
            for other in self.classes():
                self.assertEqual(isinstance(made, other), other is error)

    def test_they_can_be_shown(self):
        for error in self.classes():
            self.assertIsInstance(str(error("thing")), str)
            self.assertNotEqual(str(error("thing")), "")


if __name__ == "__main__":
    unittest.main()
