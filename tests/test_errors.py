"""[2.2]: the errors."""

import unittest

from outofwishes import errors

KEPT = {
    "BadTerm": "term", "BadTerms": "index", "BadNumber": "number", "BadNumbers": "numbers", "BadBody": "body",
    "BadInputs": "index", "BadOutputs": "index", "StrangeName": "name", "BadWish": "wish", "BadGiven": "given",
    "BadFound": "found", "BadNames": "index", "BadBodies": "index", "BadSystem": "system", "BadTest": "test",
    "BadCase": "index", "NotEven": "index", "BadSolution": "solution", "BadPoint": "point", "NotLoose": "index",
    "BadIndexes": "index", "NoRow": "index", "BadStatement": "place", "BadProgram": "program", "BadPlace": "place",
    "BadName": "name", "BadLow": "low", "BadHigh": "high", "NoInput": "name", "NotOneCase": "many",
    "BadCode": "code", "BadChart": "chart",
}


class Errors(unittest.TestCase):
    def test_wish_error_is_a_value_error(self):
        self.assertEqual(errors.WishError.__bases__, (ValueError,))

    def test_each_is_a_direct_subclass(self):
        for name in list(KEPT) + ["UnlikeNames"]:
            self.assertEqual(getattr(errors, name).__bases__, (errors.WishError,), name)
            self.assertEqual(getattr(errors, name).__module__, "outofwishes.errors")

    def test_there_are_no_others(self):
        found = [name for name in vars(errors) if not name.startswith("_")]
        self.assertEqual(sorted(found), sorted(list(KEPT) + ["UnlikeNames", "WishError"]))

    def test_each_keeps_the_very_object_by_place_and_by_name(self):
        for kept in [object(), [1, [2]], {"a": {}}, None, True, len, ("a",), 10 ** 30]:
            for name, attribute in KEPT.items():
                error = getattr(errors, name)
                self.assertIs(getattr(error(kept), attribute), kept)
                self.assertIs(getattr(error(**{attribute: kept}), attribute), kept)

    def test_each_wants_just_its_parameter(self):
        for name in KEPT:
            error = getattr(errors, name)
            self.assertRaises(TypeError, error)
            self.assertRaises(TypeError, error, 1, 2)
            self.assertRaises(TypeError, lambda made=error: made(other=1))

    def test_unlike_names_keeps_nothing(self):
        self.assertEqual(vars(errors.UnlikeNames()), {})

    def test_they_are_caught_as_wish_errors(self):
        for name in KEPT:
            with self.assertRaises(errors.WishError):
                raise getattr(errors, name)(0)
        with self.assertRaises(ValueError):
            raise errors.UnlikeNames()
