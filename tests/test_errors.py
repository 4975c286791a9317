"""The classes of errors.py: their names, their attributes, and under which class they stand."""

import unittest

from partfilter import errors
from partfilter.errors import (
    FilterError, InvalidFilter, InvalidLetter, InvalidLine, InvalidMachine, InvalidSemigroup,
    InvalidValue, NoLength, TooManyChanges, TooManyLines, TooManyQuestions, TooManyStates,
    TooManyValues, WordsTooLong, WordTooLong,
)

PLAIN = [
    InvalidValue, WordTooLong, WordsTooLong, TooManyValues, TooManyStates, TooManyQuestions,
    TooManyLines, NoLength, TooManyChanges,
]
WITH_WORD = [InvalidSemigroup, InvalidMachine]
WITH_NUMBER = [InvalidFilter, InvalidLine]
WITH_PLACE = [InvalidLetter]


class Errors(unittest.TestCase):
    def test_filter_error_is_directly_under_value_error(self):
        self.assertEqual(FilterError.__bases__, (ValueError,))

    def test_all_others_are_directly_under_filter_error(self):
        for kind in PLAIN + WITH_WORD + WITH_NUMBER + WITH_PLACE:
            with self.subTest(kind=kind.__name__):
                self.assertEqual(kind.__bases__, (FilterError,))

    def test_they_are_defined_in_errors_under_their_own_names(self):
        for kind in [FilterError] + PLAIN + WITH_WORD + WITH_NUMBER + WITH_PLACE:
            with self.subTest(kind=kind.__name__):
                self.assertEqual(kind.__module__, "partfilter.errors")
                self.assertIs(getattr(errors, kind.__name__), kind)

    def test_no_other_class_stands_there(self):
        kinds = [worth for worth in vars(errors).values() if isinstance(worth, type)]
        self.assertEqual(len(kinds), 15)

    def test_word(self):
        for kind in WITH_WORD:
            for word in ("table", "lasts"):
                with self.subTest(kind=kind.__name__, word=word):
                    self.assertEqual(kind(word).word, word)

    def test_number(self):
        for kind in WITH_NUMBER:
            for number in (0, 7, 300):
                with self.subTest(kind=kind.__name__, number=number):
                    self.assertEqual(kind(number).number, number)

    def test_place(self):
        for place in (0, 3):
            self.assertEqual(InvalidLetter(place).place, place)

    def test_the_message_tells_the_attribute(self):
        self.assertEqual(str(InvalidSemigroup("associative")), "associative")
        self.assertEqual(str(InvalidFilter(299)), "299")
        self.assertEqual(str(InvalidLetter(2)), "2")

    def test_attributes_are_set_by_name_too(self):
        self.assertEqual(InvalidSemigroup(word="letters").word, "letters")
        self.assertEqual(InvalidMachine(word="rows").word, "rows")
        self.assertEqual(InvalidFilter(number=4).number, 4)
        self.assertEqual(InvalidLine(number=5).number, 5)
        self.assertEqual(InvalidLetter(place=6).place, 6)

    def test_each_is_caught_as_filter_error_and_as_value_error(self):
        made = [kind("told") for kind in PLAIN + WITH_WORD]
        made += [kind(1) for kind in WITH_NUMBER + WITH_PLACE]
        for error in made:
            for base in (FilterError, ValueError):
                with self.subTest(error=repr(error), base=base.__name__):
                    with self.assertRaises(base):
                        raise error

    def test_plain_errors_are_made_without_arguments_too(self):
        for kind in [FilterError] + PLAIN:
            with self.subTest(kind=kind.__name__):
                self.assertIsInstance(kind(), ValueError)

    def test_one_error_is_not_another(self):
        kinds = PLAIN + WITH_WORD + WITH_NUMBER + WITH_PLACE
        for one in kinds:
            for two in kinds:
                self.assertEqual(issubclass(one, two), one is two)


if __name__ == "__main__":
    unittest.main()
