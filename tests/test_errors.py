"""[12] errors."""

import unittest

from besidealone import errors
from tests.helpers import ANY

FIELDS = {"NoCommand": "line", "NoName": "name", "NoText": "line", "NotRight": "faults", "TooMany": "most",
          "Wrong": "place"}


class Errors(unittest.TestCase):

    def test_fields_are_the_very_objects(self):
        for name, field in FIELDS.items():
            for thing in ANY:
                error = getattr(errors, name)(thing)
                self.assertIs(getattr(error, field), thing)
                self.assertEqual(list(vars(error)), [field])

    def test_nothing_takes_nothing(self):
        self.assertEqual(vars(errors.Nothing()), {})

    def test_what_is_a_subclass_of_what(self):
        every = [getattr(errors, name) for name in [*FIELDS, "Nothing"]]
        for one in every:
            self.assertTrue(issubclass(one, errors.MixedError))
            self.assertEqual(one.__bases__, (errors.MixedError,))
            self.assertEqual([other for other in every if issubclass(one, other)], [one])
        self.assertEqual(errors.MixedError.__bases__, (ValueError,))

    def test_mixed_error_is_made_like_a_value_error(self):
        for given in ((), ("a",), (1, "b"), ([1],)):
            self.assertEqual(errors.MixedError(*given).args, ValueError(*given).args)
            self.assertEqual(str(errors.MixedError(*given)), str(ValueError(*given)))

    def test_they_are_raised_and_caught(self):
        for name, field in FIELDS.items():
            with self.assertRaises(ValueError) as caught:
                raise getattr(errors, name)(7)
            self.assertEqual(getattr(caught.exception, field), 7)
        with self.assertRaises(errors.MixedError):
            raise errors.Nothing()


if __name__ == "__main__":
    unittest.main()
