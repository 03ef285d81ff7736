"""The classes of refusals and their values."""

import unittest

from sinkstack import errors

WITH_VALUE = {"BadPlan": "part", "BadWork": "number", "BadPair": "number", "BadText": "place"}
PLAIN = ["BadStack", "BadTriple", "BadSteps", "BadSign", "BadCount"]


class Errors(unittest.TestCase):
    def test_a_refusal_is_a_value_error(self):
        self.assertEqual(errors.SinkError.__bases__, (ValueError,))

    def test_each_class_stands_directly_below(self):
        for name in list(WITH_VALUE) + PLAIN:
            kind = getattr(errors, name)
            self.assertEqual(kind.__bases__, (errors.SinkError,))
            self.assertEqual(kind.__name__, name)
            self.assertEqual(kind.__module__, "sinkstack.errors")

    def test_values_are_set_when_created(self):
        for name, value in WITH_VALUE.items():
            for number in (-1, 0, 3, 60):
                made = getattr(errors, name)(number)
                self.assertEqual(getattr(made, value), number)
                self.assertIs(type(str(made)), str)

    def test_those_without_a_value_take_words(self):
        for name in PLAIN:
            with self.assertRaises(errors.SinkError):
                raise getattr(errors, name)("words")


if __name__ == "__main__":
    unittest.main()
