import unittest

from staytallies import errors
from staytallies.errors import (
    BadBounds, BadEnds, BadLetter, BadMachine, BadNumber, BadRow, BadSet, BadStand, BadStands, BadSteps,
    InvalidText, TallyError, TooMany,
)

PLAIN = (BadStands, BadEnds, BadMachine, BadStand, BadRow, BadLetter, BadBounds, BadSet)
WITH_FIELDS = (BadSteps, BadNumber, TooMany, InvalidText)


class Errors(unittest.TestCase):
    def test_the_base_class(self):
        self.assertEqual(TallyError.__bases__, (ValueError,))

    def test_each_error_is_directly_under_the_base_class(self):
        for error in PLAIN + WITH_FIELDS:
            self.assertEqual(error.__bases__, (TallyError,), error)
            self.assertEqual(error.__module__, "staytallies.errors")

    def test_there_are_no_other_errors(self):
        own = [x for x in vars(errors).values() if isinstance(x, type) and issubclass(x, Exception)]
        self.assertEqual(set(own), {TallyError, *PLAIN, *WITH_FIELDS})

    def test_fields(self):
        self.assertEqual(BadSteps(3).index, 3)
        self.assertIsNone(BadSteps(None).index)
        self.assertEqual(BadSteps(index=0).index, 0)
        self.assertEqual(BadNumber(-1).n, -1)
        self.assertEqual(BadNumber(n="x").n, "x")
        self.assertEqual(TooMany(12).most, 12)
        self.assertEqual(TooMany(most=12).most, 12)
        error = InvalidText(4, 3)
        self.assertEqual((error.line, error.word), (4, 3))
        error = InvalidText(word=3, line=4)
        self.assertEqual((error.line, error.word), (4, 3))

    def test_any_value_as_a_number(self):
        for n in (None, True, [], {}, (1, "a"), 10 ** 6000):
            error = BadNumber(n)
            self.assertTrue(error.n is n)
            self.assertTrue(str(error))

    def test_plain_errors_take_words(self):
        for error in PLAIN:
            with self.assertRaises(ValueError) as caught:
                raise error("words")
            self.assertEqual(str(caught.exception), "words")


if __name__ == "__main__":
    unittest.main()
