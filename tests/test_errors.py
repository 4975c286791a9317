"""The classes of errors.py: their names, their attributes, and under which class they stand."""

import unittest

from partfilter import errors
from partfilter.alike import are_alike
from partfilter.classes import classes_of
from partfilter.ends import ends_apart
from partfilter.errors import (
    FilterError, InvalidFilter, InvalidLetter, InvalidLine, InvalidMachine, InvalidSemigroup,
    InvalidValue, NoLength, TooManyChanges, TooManyLines, TooManyQuestions, TooManyStates,
    TooManyValues, WordsTooLong, WordTooLong,
)
from partfilter.family import family_of
from partfilter.filters import takes
from partfilter.machines import semigroup_of
from partfilter.notation import parse_filter, parse_machine, parse_semigroup, parse_word
from partfilter.readers import reader_of
from partfilter.separating import separate
from partfilter.unseen import word_of
from partfilter.workshop import Workshop
from samples import repeated
from tables import ADD2, LEFT, NILPOTENT

PLAIN = [
    InvalidValue, WordTooLong, WordsTooLong, TooManyValues, TooManyStates, TooManyQuestions,
    TooManyLines, NoLength, TooManyChanges,
]
WITH_WORD = [InvalidSemigroup, InvalidMachine]
WITH_NUMBER = [InvalidFilter, InvalidLine]
WITH_PLACE = [InvalidLetter]


class Errors(unittest.TestCase):
    def test_filter_error_is_directly_under_value_error(self):
        self.assertEqual(FilterError.__bases__, (ValueError,))

    def test_all_others_are_directly_under_filter_error(self):
        for kind in PLAIN + WITH_WORD + WITH_NUMBER + WITH_PLACE:
            with self.subTest(kind=kind.__name__):
                self.assertEqual(kind.__bases__, (FilterError,))

    def test_they_are_defined_in_errors_under_their_own_names(self):
        for kind in [FilterError] + PLAIN + WITH_WORD + WITH_NUMBER + WITH_PLACE:
            with self.subTest(kind=kind.__name__):
                self.assertEqual(kind.__module__, "partfilter.errors")
                self.assertIs(getattr(errors, kind.__name__), kind)

    def test_no_other_class_stands_there(self):
        kinds = [worth for worth in vars(errors).values() if isinstance(worth, type)]
        self.assertEqual(len(kinds), 15)

    def test_word(self):
        for kind in WITH_WORD:
            for word in ("table", "lasts"):
                with self.subTest(kind=kind.__name__, word=word):
                    self.assertEqual(kind(word).word, word)

    def test_number(self):
        for kind in WITH_NUMBER:
            for number in (0, 7, 300):
                with self.subTest(kind=kind.__name__, number=number):
                    self.assertEqual(kind(number).number, number)

    def test_place(self):
        for place in (0, 3):
            self.assertEqual(InvalidLetter(place).place, place)

    def test_the_message_tells_the_attribute(self):
        self.assertEqual(str(InvalidSemigroup("associative")), "associative")
        self.assertEqual(str(InvalidFilter(299)), "299")
        self.assertEqual(str(InvalidLetter(2)), "2")

    def test_attributes_are_set_by_name_too(self):
        self.assertEqual(InvalidSemigroup(word="letters").word, "letters")
        self.assertEqual(InvalidMachine(word="rows").word, "rows")
        self.assertEqual(InvalidFilter(number=4).number, 4)
        self.assertEqual(InvalidLine(number=5).number, 5)
        self.assertEqual(InvalidLetter(place=6).place, 6)

    def test_each_is_caught_as_filter_error_and_as_value_error(self):
        made = [kind("told") for kind in PLAIN + WITH_WORD]
        made += [kind(1) for kind in WITH_NUMBER + WITH_PLACE]
        for error in made:
            for base in (FilterError, ValueError):
                with self.subTest(error=repr(error), base=base.__name__):
                    with self.assertRaises(base):
                        raise error

    def test_plain_errors_are_made_without_arguments_too(self):
        for kind in [FilterError] + PLAIN:
            with self.subTest(kind=kind.__name__):
                self.assertIsInstance(kind(), ValueError)

    def test_one_error_is_not_another(self):
        kinds = PLAIN + WITH_WORD + WITH_NUMBER + WITH_PLACE
        for one in kinds:
            for two in kinds:
                self.assertEqual(issubclass(one, two), one is two)


def set_often(shop, times):
    for _ in range(times):
        shop.set_letter(0, 1)


# For each class a call that meets it, and the attribute with what it holds. TooManyQuestions is met
# by no short call: no semigroup of up to four values asks for more than 40 questions.
MET = [
    (InvalidSemigroup, lambda: family_of((ADD2, (2,))), ("word", "letters")),
    (InvalidSemigroup, lambda: Workshop(((), (0,))), ("word", "table")),
    (InvalidSemigroup, lambda: parse_semigroup("letters 0\nrow 1 0\nrow 0 0"), ("word", "associative")),
    (InvalidMachine, lambda: semigroup_of((1, ((1,),), 0, ())), ("word", "rows")),
    (InvalidMachine, lambda: parse_machine("letters 1\nrow 0\nfirst 1\nlasts"), ("word", "first")),
    (InvalidFilter, lambda: takes((("none",), ("not", 1)), []), ("number", 1)),
    (InvalidFilter, lambda: parse_filter("not 0"), ("number", 0)),
    (InvalidLine, lambda: parse_filter("none\nall"), ("number", 1)),
    (InvalidLine, lambda: parse_machine(""), ("number", 1)),
    (InvalidLetter, lambda: parse_word(2, "012"), ("place", 2)),
    (InvalidLetter, lambda: Workshop((ADD2, (0,))).set_letter(-1, 0), ("place", -1)),
    (InvalidValue, lambda: separate((ADD2, (1,)), (0,), (2,)), None),
    (InvalidValue, lambda: Workshop((ADD2, (0,))).set_letter(0, 2), None),
    (WordTooLong, lambda: are_alike([0] * 41, [], 0), None),
    (WordTooLong, lambda: takes((("none",),), [0] * 21), None),
    (WordTooLong, lambda: parse_word(1, "0" * 61), None),
    (WordsTooLong, lambda: word_of((ADD2, (1,)), 1, 0, 9), None),
    (TooManyValues, lambda: semigroup_of((2, ((1, 1), (2, 0), (0, 2)), 0, ())), None),
    (TooManyStates, lambda: reader_of(repeated(99), 1), None),
    (TooManyLines, lambda: classes_of((NILPOTENT, (1, 2, 3))), None),
    (NoLength, lambda: ends_apart((LEFT, (0, 1)), (0,), (1,), 0), None),
    (TooManyChanges, lambda: set_often(Workshop((ADD2, (0,))), 101), None),
]


class Met(unittest.TestCase):
    def test_one_call_for_each_class(self):
        for kind, call, told in MET:
            with self.subTest(kind=kind.__name__):
                with self.assertRaises(kind) as caught:
                    call()
                error = caught.exception
                for other in [FilterError, ValueError] + PLAIN + WITH_WORD + WITH_NUMBER + WITH_PLACE:
                    self.assertEqual(
                        isinstance(error, other), other in (kind, FilterError, ValueError), other)
                if told:
                    name, worth = told
                    self.assertEqual(getattr(error, name), worth)

    def test_all_classes_but_one(self):
        self.assertEqual(
            {kind for kind, _, _ in MET} | {TooManyQuestions},
            set(PLAIN + WITH_WORD + WITH_NUMBER + WITH_PLACE))


if __name__ == "__main__":
    unittest.main()
