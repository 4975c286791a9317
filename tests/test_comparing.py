"""Points [44] and [45]: questions about filters, and least readers."""

import copy
import itertools
import unittest

from partfilter.comparing import count_taken, first_difference, first_taken, least_reader
from partfilter.errors import InvalidFilter, TooManyStates
from partfilter.filters import takes
from partfilter.readers import reader_of
from samples import repeated, some_filters, words_up_to

NONE = ("none",)
EMPTY = ("empty",)
A = ("letter", 0)
B = ("letter", 1)
C = ("letter", 2)
# All words: what is not none.
ALL = (NONE, ("not", 0))
# The words that begin with the letter 0, and those that end with it.
BEGINS = (*ALL, A, ("behind", 2, 1))
ENDS = (*ALL, A, ("behind", 1, 2))


def words_of(letters, size):
    return [list(word) for word in itertools.product(range(letters), repeat=size)]


def apart(rows, taking):
    """The pairs of states of a reader from which some word is taken from one alone."""
    many = range(len(rows))
    found = {(p, q) for p in many for q in many if taking[p] != taking[q]}
    size = -1
    while size != len(found):
        size = len(found)
        for p, q in itertools.product(many, repeat=2):
            if any((to, other) in found for to, other in zip(rows[p], rows[q])):
                found.add((p, q))
    return found


def reached_in_order(rows):
    order = [0]
    for state in order:
        for to in rows[state]:
            if to not in order:
                order.append(to)
    return order


def plain_least(lines, letters):
    """The least reader: one state for all states of the reader that no word tells apart."""
    rows, taking = reader_of(lines, letters)
    told = apart(rows, taking)

    def kind(state):
        return min(other for other in range(len(rows)) if (state, other) not in told)

    order = [kind(0)]
    for state in order:
        for to in rows[state]:
            if kind(to) not in order:
                order.append(kind(to))
    return ([[order.index(kind(to)) for to in rows[state]] for state in order],
            [taking[state] for state in order])


class FirstTaken(unittest.TestCase):
    def test_the_empty_word(self):
        for letters in (1, 2, 3):
            self.assertEqual(first_taken((EMPTY,), letters), [])
            self.assertEqual(first_taken(ALL, letters), [])
            self.assertEqual(first_taken((A, ("not", 0)), letters), [])

    def test_one_letter(self):
        self.assertEqual(first_taken((A,), 1), [0])
        self.assertEqual(first_taken((B,), 2), [1])
        self.assertEqual(first_taken((C,), 3), [2])
        self.assertEqual(first_taken((C, B, ("or", 0, 1)), 3), [1])
        self.assertEqual(first_taken((EMPTY, ("not", 0)), 3), [0])

    def test_the_shorter_word_first_and_then_the_smaller_letters(self):
        lines = (A, B, ("behind", 0, 0), ("or", 1, 2))
        self.assertEqual(first_taken(lines, 2), [1])
        lines = (A, B, ("behind", 1, 0), ("behind", 0, 1), ("or", 2, 3))
        self.assertEqual(first_taken(lines, 2), [0, 1])
        # Three letters of which the second one is 2, or two letters of which the first one is 2.
        lines = (A, C, ("behind", 1, 0), ("behind", 0, 2), ("or", 2, 3))
        self.assertEqual(first_taken(lines, 3), [2, 0])

    def test_a_long_word(self):
        self.assertEqual(first_taken(repeated(98), 1), [0] * 98)
        self.assertEqual(first_taken(repeated(49), 3), [0] * 49)
        # Thirty letters or more, the first one of which is 1.
        lines = repeated(29) + (B, *[("none",), ("not", 30), ("behind", 28, 31), ("behind", 29, 32)])
        self.assertEqual(first_taken(lines, 2), [1] + [0] * 29)

    def test_none(self):
        for letters in (1, 2, 3):
            self.assertIsNone(first_taken((NONE,), letters))
            self.assertIsNone(first_taken((*ALL, ("not", 1)), letters))
            self.assertIsNone(first_taken((NONE, A, ("behind", 0, 1)), letters))

    def test_a_letter_that_is_not_below_the_number_of_letters(self):
        self.assertIsNone(first_taken((B,), 1))
        self.assertIsNone(first_taken((C,), 1))
        self.assertIsNone(first_taken((C,), 2))
        self.assertIsNone(first_taken((A, C, ("behind", 0, 1)), 2))
        self.assertEqual(first_taken((A, C, ("or", 0, 1)), 2), [0])

    def test_as_the_document_says(self):
        for lines in some_filters(150, 7, 44):
            for letters in (1, 2, 3):
                word = first_taken(lines, letters)
                short = [one for one in words_up_to(letters, 4) if takes(lines, one)]
                if word is None or len(word) > 4:
                    self.assertEqual(short, [])
                else:
                    self.assertEqual(word, short[0])


class FirstDifference(unittest.TestCase):
    def test_filters_that_take_the_same_words(self):
        for letters in (1, 2, 3):
            self.assertIsNone(first_difference((A,), (A,), letters))
            self.assertIsNone(first_difference((A,), (B, A), letters))
            self.assertIsNone(first_difference((NONE,), (*ALL, ("not", 1)), letters))
            self.assertIsNone(first_difference(
                (A, B, ("or", 0, 1)), (B, A, ("or", 0, 1), ("not", 2), ("not", 3)), letters))
            self.assertIsNone(first_difference((EMPTY, A, ("behind", 0, 1)), (A,), letters))

    def test_filters_that_differ_in_the_empty_word_alone(self):
        for letters in (1, 2, 3):
            self.assertEqual(first_difference((NONE,), (EMPTY,), letters), [])
            self.assertEqual(first_difference((EMPTY,), (NONE,), letters), [])
            self.assertEqual(first_difference(ALL, (EMPTY, ("not", 0)), letters), [])
            self.assertEqual(first_difference((A,), (A, EMPTY, ("or", 0, 1)), letters), [])

    def test_the_first_word_that_one_alone_takes(self):
        self.assertEqual(first_difference((A,), (B,), 2), [0])
        self.assertEqual(first_difference((B,), (C,), 3), [1])
        self.assertEqual(first_difference(BEGINS, ENDS, 2), [0, 1])
        self.assertEqual(first_difference(ENDS, BEGINS, 2), [0, 1])
        self.assertEqual(first_difference(BEGINS, (A,), 1), [0, 0])
        self.assertEqual(first_difference(BEGINS, (A,), 3), [0, 0])
        self.assertIsNone(first_difference(BEGINS, ENDS, 1))

    def test_a_long_word(self):
        self.assertEqual(first_difference((NONE,), repeated(97), 1), [0] * 97)
        self.assertEqual(first_difference(repeated(98), repeated(97), 1), [0] * 97)
        self.assertEqual(first_difference(repeated(49), repeated(48), 2), [0] * 48)

    def test_a_letter_that_is_not_below_the_number_of_letters(self):
        self.assertIsNone(first_difference((B,), (NONE,), 1))
        self.assertIsNone(first_difference((B,), (C,), 1))
        self.assertEqual(first_difference((B,), (C,), 2), [1])

    def test_as_the_document_says(self):
        filters = list(some_filters(40, 6, 45))
        for one, two in itertools.combinations(filters, 2):
            for letters in (1, 2):
                word = first_difference(one, two, letters)
                self.assertEqual(word, first_difference(two, one, letters))
                short = [w for w in words_up_to(letters, 3) if takes(one, w) != takes(two, w)]
                if word is None or len(word) > 3:
                    self.assertEqual(short, [])
                else:
                    self.assertEqual(word, short[0])


class CountTaken(unittest.TestCase):
    def test_no_letters(self):
        self.assertEqual(count_taken((EMPTY,), 2, 0), 1)
        self.assertEqual(count_taken(ALL, 3, 0), 1)
        self.assertEqual(count_taken((A,), 2, 0), 0)
        self.assertEqual(count_taken((NONE,), 1, 0), 0)

    def test_one_letter(self):
        self.assertEqual(count_taken((A,), 2, 1), 1)
        self.assertEqual(count_taken((A, C, ("or", 0, 1)), 3, 1), 2)
        self.assertEqual(count_taken((EMPTY,), 3, 1), 0)
        for letters in (1, 2, 3):
            self.assertEqual(count_taken(ALL, letters, 1), letters)

    def test_30_letters(self):
        self.assertEqual(count_taken(ALL, 1, 30), 1)
        self.assertEqual(count_taken(ALL, 2, 30), 2 ** 30)
        self.assertEqual(count_taken(ALL, 3, 30), 3 ** 30)
        self.assertEqual(count_taken(BEGINS, 3, 30), 3 ** 29)
        self.assertEqual(count_taken(ENDS, 2, 30), 2 ** 29)
        self.assertEqual(count_taken(BEGINS + (("not", 3),), 3, 30), 3 ** 30 - 3 ** 29)
        self.assertEqual(count_taken((A,), 2, 30), 0)
        self.assertEqual(count_taken(repeated(30), 2, 30), 1)
        self.assertEqual(count_taken((*ALL, A, ("behind", 1, 2), ("behind", 3, 1)), 2, 30),
                         2 ** 30 - 1)

    def test_a_letter_that_is_not_below_the_number_of_letters(self):
        self.assertEqual(count_taken((B,), 1, 1), 0)
        self.assertEqual(count_taken((C,), 2, 1), 0)
        self.assertEqual(count_taken((C,), 3, 1), 1)
        self.assertEqual(count_taken((C, ("not", 0)), 2, 30), 2 ** 30)
        self.assertEqual(count_taken((A, C, ("or", 0, 1)), 2, 1), 1)

    def test_as_the_document_says(self):
        for lines in some_filters(120, 7, 46):
            for letters in (1, 2, 3):
                for size in range(5):
                    wanted = sum(takes(lines, word) for word in words_of(letters, size))
                    found = count_taken(lines, letters, size)
                    self.assertEqual(found, wanted)
                    self.assertIs(type(found), int)


class LeastReader(unittest.TestCase):
    def test_a_filter_that_takes_no_word(self):
        for lines in ((NONE,), (*ALL, ("not", 1)), (A, NONE, ("behind", 0, 1)),
                      (A, ("not", 0), ("or", 0, 1), ("not", 2))):
            self.assertEqual(least_reader(lines, 1), ([[0]], [False]))
            self.assertEqual(least_reader(lines, 3), ([[0, 0, 0]], [False]))

    def test_a_filter_that_takes_all_words(self):
        for lines in (ALL, (A, ("not", 0), ("or", 0, 1)), (*ALL, ("behind", 1, 1))):
            self.assertEqual(least_reader(lines, 1), ([[0]], [True]))
            self.assertEqual(least_reader(lines, 2), ([[0, 0]], [True]))

    def test_states_that_become_one(self):
        # The reader of point 18 has four states, of which those that take are alike.
        lines = (A, B, ("or", 0, 1))
        self.assertEqual(len(reader_of(lines, 2)[0]), 4)
        self.assertEqual(
            least_reader(lines, 2), ([[1, 1], [2, 2], [2, 2]], [False, True, False]))
        lines = (*ALL, A, ("behind", 1, 2))
        self.assertEqual(len(reader_of(lines, 2)[0]), 4)
        self.assertEqual(least_reader(lines, 2), ([[1, 0], [1, 0]], [False, True]))
        self.assertEqual(len(reader_of(BEGINS, 2)[0]), 4)
        self.assertEqual(
            least_reader(BEGINS, 2), ([[1, 2], [1, 1], [2, 2]], [False, True, False]))

    def test_a_reader_that_is_the_least_one_already(self):
        for lines in ((NONE,), (EMPTY,), (A,), ALL, (A, ("not", 0))):
            self.assertEqual(least_reader(lines, 2), reader_of(lines, 2))
        self.assertEqual(least_reader(repeated(98), 1), reader_of(repeated(98), 1))

    def test_the_order_in_which_states_are_reached(self):
        self.assertEqual(
            least_reader((A,), 2), ([[1, 2], [2, 2], [2, 2]], [False, True, False]))
        self.assertEqual(
            least_reader((B,), 2), ([[1, 2], [1, 1], [1, 1]], [False, False, True]))
        self.assertEqual(
            least_reader((C,), 3),
            ([[1, 1, 2], [1, 1, 1], [1, 1, 1]], [False, False, True]))
        self.assertEqual(
            least_reader((B, ("not", 0)), 3),
            ([[1, 2, 1], [1, 1, 1], [1, 1, 1]], [True, True, False]))
        self.assertEqual(
            least_reader((*ALL, B, A, ("behind", 2, 3), ("behind", 4, 1)), 2),
            ([[1, 2], [1, 1], [3, 1], [3, 3]], [False, False, False, True]))

    def test_a_letter_that_is_not_below_the_number_of_letters(self):
        self.assertEqual(least_reader((B,), 1), ([[0]], [False]))
        self.assertEqual(least_reader((C,), 2), ([[0, 0]], [False]))
        self.assertEqual(least_reader((C, ("not", 0)), 2), ([[0, 0]], [True]))
        self.assertEqual(
            least_reader((A, C, ("or", 0, 1)), 1), ([[1], [2], [2]], [False, True, False]))

    def test_as_the_document_says(self):
        for lines in some_filters(250, 8, 47):
            for letters in (1, 2, 3):
                found = least_reader(lines, letters)
                rows, taking = found
                self.assertEqual(reached_in_order(rows), list(range(len(rows))))
                # All states are told apart, so no reader with fewer states takes the same words.
                self.assertEqual(len(apart(rows, taking)), len(rows) * (len(rows) - 1))
                self.assertEqual(found, plain_least(lines, letters))
                for word in words_up_to(letters, 3):
                    state = 0
                    for letter in word:
                        state = rows[state][letter]
                    self.assertIs(taking[state], takes(lines, word))

    def test_filters_that_take_the_same_words_have_the_same_one(self):
        one = (A, B, ("or", 0, 1), ("behind", 2, 2))
        two = (B, A, ("behind", 0, 0), ("behind", 0, 1), ("behind", 1, 0), ("behind", 1, 1),
               ("or", 2, 3), ("or", 4, 5), ("or", 6, 7))
        for letters in (1, 2, 3):
            self.assertNotEqual(reader_of(one, 2), reader_of(two, 2))
            self.assertEqual(least_reader(one, letters), least_reader(two, letters))

    def test_the_form(self):
        found = least_reader(BEGINS, 2)
        self.assertIsInstance(found, tuple)
        rows, taking = found
        self.assertIsInstance(rows, list)
        self.assertIsInstance(taking, list)
        for row in rows:
            self.assertIsInstance(row, list)
        for taken in taking:
            self.assertIsInstance(taken, bool)
        kept = copy.deepcopy(found)
        rows[0].append(7)
        rows.append([])
        taking.clear()
        self.assertEqual(least_reader(BEGINS, 2), kept)


# What is asked of one filter, as functions of the filter and the number of letters alone.
ASKED = [
    first_taken,
    least_reader,
    lambda lines, letters: count_taken(lines, letters, 0),
    lambda lines, letters: count_taken(lines, letters, 30),
    lambda lines, letters: first_difference(lines, (A,), letters),
    lambda lines, letters: first_difference((A,), lines, letters),
    lambda lines, letters: first_difference(lines, lines, letters),
]


class Errors(unittest.TestCase):
    def test_filters(self):
        told = [((), 0), ((("nothing",),), 0), ((A, ("not", 1)), 1), ((A, NONE, ("letter", 3)), 2),
                (repeated(99) + (("nothing",),), 99), (repeated(301), 300)]
        for asked in ASKED:
            for lines, number in told:
                with self.subTest(number=number):
                    with self.assertRaises(InvalidFilter) as caught:
                        asked(lines, 1)
                    self.assertEqual(caught.exception.number, number)

    def test_states(self):
        for asked in ASKED:
            for lines in (repeated(99), repeated(99) + (NONE,), repeated(99) + ALL):
                with self.assertRaises(TooManyStates):
                    asked(lines, 1)
            with self.assertRaises(TooManyStates):
                asked(repeated(50), 2)
            asked(repeated(98), 1)
            asked(repeated(49), 2)

    def test_the_first_filter_whole_ahead_of_the_second_one(self):
        many, wrong = repeated(99), (A, B, ("not", 2))
        with self.assertRaises(TooManyStates):
            first_difference(many, wrong, 1)
        with self.assertRaises(InvalidFilter) as caught:
            first_difference(wrong, many, 1)
        self.assertEqual(caught.exception.number, 2)
        with self.assertRaises(InvalidFilter) as caught:
            first_difference(wrong, (), 1)
        self.assertEqual(caught.exception.number, 2)
        with self.assertRaises(InvalidFilter) as caught:
            first_difference((), wrong, 1)
        self.assertEqual(caught.exception.number, 0)
        with self.assertRaises(InvalidFilter) as caught:
            first_difference((EMPTY,), wrong, 1)
        self.assertEqual(caught.exception.number, 2)
        with self.assertRaises(TooManyStates):
            first_difference((EMPTY,), many, 1)


if __name__ == "__main__":
    unittest.main()
