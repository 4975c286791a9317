"""Points [18] and [19]: readers of filters, and the judge."""

import copy
import random
import unittest

from partfilter.errors import InvalidFilter, InvalidSemigroup, TooManyStates
from partfilter.filters import takes
from partfilter.readers import reader_of, refuted_by
from partfilter.semigroups import value_of
from samples import repeated, some_filters, words_up_to
from tables import ABSORB, ADD2, ADD3, COUNT4, LEFT, RIGHT

NONE = ("none",)
EMPTY = ("empty",)
A = ("letter", 0)
B = ("letter", 1)
C = ("letter", 2)
# All words: what is not none.
ALL = (NONE, ("not", 0))

def plain_reader(lines, number, letters):
    """The reader of a line, told anew from point [18]."""
    kind, *parts = lines[number]
    every = range(letters)
    if kind == "none":
        return [[0 for _ in every]], [False]
    if kind == "empty":
        return [[1 for _ in every] for _ in range(2)], [True, False]
    if kind == "letter":
        rows = [[2 for _ in every] for _ in range(3)]
        if parts[0] in every:
            rows[0][parts[0]] = 1
        return rows, [False, True, False]
    rows, last = plain_reader(lines, parts[0], letters)
    if kind == "not":
        return rows, [not one for one in last]
    others, end = plain_reader(lines, parts[1], letters)
    if kind == "or":
        return plain_states(
            (0, 0), letters,
            lambda pair, a: (rows[pair[0]][a], others[pair[1]][a]),
            lambda pair: last[pair[0]] or end[pair[1]])

    def lead(pair, a):
        new = rows[pair[0]][a]
        members = {others[s][a] for s in pair[1]}
        return new, frozenset(members | {0} if last[new] else members)

    return plain_states(
        (0, frozenset([0] if last[0] else [])), letters, lead,
        lambda pair: any(end[s] for s in pair[1]))


def plain_states(first, letters, lead, ends):
    states = [first]
    for state in states:
        for a in range(letters):
            if lead(state, a) not in states:
                states.append(lead(state, a))
    if len(states) > 100:
        raise TooManyStates()
    rows = [[states.index(lead(state, a)) for a in range(letters)] for state in states]
    return rows, [ends(state) for state in states]


def read(reader, word):
    rows, taking = reader
    state = 0
    for letter in word:
        state = rows[state][letter]
    return taking[state]


class Kinds(unittest.TestCase):
    def test_none(self):
        self.assertEqual(reader_of((NONE,), 1), ([[0]], [False]))
        self.assertEqual(reader_of((NONE,), 2), ([[0, 0]], [False]))
        self.assertEqual(reader_of((NONE,), 3), ([[0, 0, 0]], [False]))

    def test_empty(self):
        self.assertEqual(reader_of((EMPTY,), 1), ([[1], [1]], [True, False]))
        self.assertEqual(reader_of((EMPTY,), 3), ([[1, 1, 1], [1, 1, 1]], [True, False]))

    def test_letter(self):
        told = [False, True, False]
        self.assertEqual(reader_of((A,), 1), ([[1], [2], [2]], told))
        self.assertEqual(reader_of((A,), 2), ([[1, 2], [2, 2], [2, 2]], told))
        self.assertEqual(reader_of((B,), 2), ([[2, 1], [2, 2], [2, 2]], told))
        self.assertEqual(reader_of((C,), 3), ([[2, 2, 1], [2, 2, 2], [2, 2, 2]], told))

    def test_a_letter_that_is_not_below_the_number_of_letters(self):
        told = [False, True, False]
        self.assertEqual(reader_of((B,), 1), ([[2], [2], [2]], told))
        self.assertEqual(reader_of((C,), 1), ([[2], [2], [2]], told))
        self.assertEqual(reader_of((C,), 2), ([[2, 2], [2, 2], [2, 2]], told))

    def test_not(self):
        self.assertEqual(reader_of(ALL, 2), ([[0, 0]], [True]))
        self.assertEqual(reader_of((EMPTY, ("not", 0)), 1), ([[1], [1]], [False, True]))
        self.assertEqual(
            reader_of((B, ("not", 0)), 2), ([[2, 1], [2, 2], [2, 2]], [True, False, True]))
        self.assertEqual(
            reader_of((B, ("not", 0), ("not", 1)), 2),
            ([[2, 1], [2, 2], [2, 2]], [False, True, False]))

    def test_or_in_the_order_in_which_the_pairs_are_reached(self):
        # The pairs: (0, 0), then (1, 2), (2, 1), and (2, 2) behind the first of them.
        self.assertEqual(
            reader_of((A, B, ("or", 0, 1)), 2),
            ([[1, 2], [3, 3], [3, 3], [3, 3]], [False, True, True, False]))
        # The same with the parts exchanged: the letters lead to them in the same order.
        self.assertEqual(
            reader_of((A, B, ("or", 1, 0)), 2),
            ([[1, 2], [3, 3], [3, 3], [3, 3]], [False, True, True, False]))
        self.assertEqual(
            reader_of((C, EMPTY, ("or", 0, 1)), 3),
            ([[1, 1, 2], [1, 1, 1], [1, 1, 1]], [True, False, True]))

    def test_or_of_a_line_with_itself(self):
        self.assertEqual(
            reader_of((B, ("or", 0, 0)), 2), ([[1, 2], [1, 1], [1, 1]], [False, False, True]))

    def test_behind_in_the_order_in_which_the_pairs_are_reached(self):
        # The pairs: (0, {}), then (1, {0}), (2, {}), and then (2, {2}), (2, {1}).
        self.assertEqual(
            reader_of((A, B, ("behind", 0, 1)), 2),
            ([[1, 2], [3, 4], [2, 2], [3, 3], [3, 3]], [False, False, False, False, True]))

    def test_behind_the_empty_word(self):
        # The pairs: (0, {0}) at once, because state 0 takes; then (1, {1}), (1, {2}).
        self.assertEqual(
            reader_of((EMPTY, A, ("behind", 0, 1)), 2),
            ([[1, 2], [2, 2], [2, 2]], [False, True, False]))
        self.assertEqual(
            reader_of((EMPTY, ("behind", 0, 0)), 1), ([[1], [1]], [True, False]))

    def test_behind_all_words(self):
        # State 0 is in the set each time: {0}, then {0, 1}, {0, 2}, {0, 1, 2} as they are reached.
        self.assertEqual(
            reader_of((*ALL, A, ("behind", 1, 2)), 1),
            ([[1], [2], [2]], [False, True, True]))
        self.assertEqual(
            reader_of((*ALL, A, ("behind", 1, 2)), 2),
            ([[1, 2], [3, 2], [3, 2], [3, 2]], [False, True, False, True]))

    def test_behind_with_a_set_that_is_empty_for_ever(self):
        self.assertEqual(reader_of((NONE, A, ("behind", 0, 1)), 2), ([[0, 0]], [False]))
        self.assertEqual(
            reader_of((NONE, A, ("behind", 1, 0)), 2),
            ([[1, 2], [3, 3], [2, 2], [3, 3]], [False, False, False, False]))

    def test_lines_in_each_other(self):
        for lines in some_filters(700, 9, 18):
            for letters in (1, 2, 3):
                if self.has_too_many(lines, letters):
                    with self.assertRaises(TooManyStates):
                        reader_of(lines, letters)
                else:
                    wanted = plain_reader(lines, len(lines) - 1, letters)
                    self.assertEqual(reader_of(lines, letters), wanted, (lines, letters))

    def has_too_many(self, lines, letters):
        for number in range(len(lines)):
            try:
                plain_reader(lines, number, letters)
            except TooManyStates:
                return True
        return False

    def test_it_takes_what_the_filter_takes(self):
        for lines in some_filters(60, 8, 19):
            for letters in (1, 2, 3):
                reader = reader_of(lines, letters)
                for word in words_up_to(letters, 4):
                    self.assertIs(read(reader, word), takes(lines, word), (lines, word))


class Form(unittest.TestCase):
    def test_a_tuple_of_two_lists(self):
        for lines in ((NONE,), (EMPTY,), (A,), ALL, (A, B, ("or", 0, 1)), (A, ("behind", 0, 0))):
            reader = reader_of(lines, 2)
            self.assertIsInstance(reader, tuple)
            rows, taking = reader
            self.assertIsInstance(rows, list)
            self.assertIsInstance(taking, list)
            self.assertEqual(len(rows), len(taking))
            for row in rows:
                self.assertIsInstance(row, list)
                self.assertEqual(len(row), 2)
                self.assertTrue(all(to in range(len(rows)) for to in row))
            self.assertTrue(all(taken is True or taken is False for taken in taking))

    def test_lists_are_new(self):
        for lines in ((NONE,), (EMPTY,), (A,), ALL, (A, B, ("or", 0, 1)), (A, ("behind", 0, 0))):
            rows, taking = reader_of(lines, 2)
            kept = copy.deepcopy((rows, taking))
            self.assertEqual(len({id(row) for row in rows}), len(rows))
            for row in rows:
                row.append(9)
            rows.append([])
            taking.append(True)
            self.assertEqual(reader_of(lines, 2), kept)

    def test_only_the_last_line_counts(self):
        self.assertEqual(reader_of((A, B, NONE), 2), ([[0, 0]], [False]))
        self.assertEqual(reader_of((EMPTY, A), 1), ([[1], [2], [2]], [False, True, False]))


class ManyStates(unittest.TestCase):
    def test_exactly_100(self):
        rows, taking = reader_of(repeated(98), 1)
        self.assertEqual(len(rows), 100)
        self.assertEqual(taking, [False] * 98 + [True, False])
        self.assertEqual(len(reader_of(repeated(98) + (("not", 97),), 1)[0]), 100)
        self.assertEqual(len(reader_of(repeated(98) + (("or", 97, 97),), 1)[0]), 100)

    def test_101(self):
        for letters in (1, 2, 3):
            with self.assertRaises(TooManyStates):
                reader_of(repeated(99), letters)

    def test_an_or_of_lines_with_fewer(self):
        # Twenty-five letters 0 or as many letters 1: 99 states; one more letter 1: 101.
        for many, states in ((25, 99), (26, 101)):
            lines = repeated(25) + (B,) + tuple(("behind", 25, 25 + k) for k in range(many - 1))
            self.assertLessEqual(len(reader_of(lines, 2)[0]), 53)
            lines += (("or", 24, len(lines) - 1),)
            if states <= 100:
                self.assertEqual(len(reader_of(lines, 2)[0]), states)
            else:
                with self.assertRaises(TooManyStates):
                    reader_of(lines, 2)

    def test_exactly_100_of_an_or(self):
        self.assertEqual(len(reader_of(repeated(98) + (("or", 97, 3),), 1)[0]), 100)
        self.assertEqual(len(reader_of(repeated(98) + (("or", 3, 97),), 1)[0]), 100)

    def test_a_behind_of_lines_with_fewer(self):
        # The reader of 49 letters 0 has 99 states for two letters, and that of 50 has 101.
        self.assertEqual(len(reader_of(repeated(49), 2)[0]), 99)
        for last in (A, B):
            lines = repeated(49) + (last,)
            self.assertEqual(len(reader_of(lines, 2)[0]), 3)
            with self.assertRaises(TooManyStates):
                reader_of(lines + (("behind", 49, 48),), 2)

    def test_a_line_that_is_not_used(self):
        used = repeated(99) + (A,)
        with self.assertRaises(TooManyStates):
            reader_of(used, 1)
        with self.assertRaises(TooManyStates):
            reader_of(repeated(99) + (NONE,), 1)
        self.assertEqual(
            reader_of(repeated(98) + (A,), 1), ([[1], [2], [2]], [False, True, False]))

    def test_the_number_of_letters_decides(self):
        self.assertEqual(len(reader_of(repeated(50), 1)[0]), 52)
        for letters in (2, 3):
            with self.assertRaises(TooManyStates):
                reader_of(repeated(50), letters)


class InvalidFirst(unittest.TestCase):
    def assert_invalid(self, lines, letters, number):
        with self.assertRaises(InvalidFilter) as caught:
            reader_of(lines, letters)
        self.assertEqual(caught.exception.number, number)

    def test_faults(self):
        self.assert_invalid((), 2, 0)
        self.assert_invalid((("nothing",),), 1, 0)
        self.assert_invalid((A, ("letter", 3)), 3, 1)
        self.assert_invalid((A, ("or", 0, 1)), 1, 1)
        self.assert_invalid((A,) * 301, 2, 300)

    def test_ahead_of_too_many_states(self):
        self.assert_invalid(repeated(99) + (("nothing",),), 1, 99)
        self.assert_invalid(repeated(99) + (("not", 100),), 1, 99)
        self.assert_invalid(repeated(301), 1, 300)


def plain_refuted(semigroup, first, second, lines, most):
    """The first word of up to so many letters that refutes, told anew from point [19]."""
    for word in words_up_to(len(semigroup[1]), most):
        value = value_of(semigroup, word)
        if value in first and not takes(lines, word) or value in second and takes(lines, word):
            return word
    return None


class Judge(unittest.TestCase):
    def test_a_word_that_is_not_taken(self):
        self.assertEqual(refuted_by((LEFT, (0, 1)), (0,), (1,), (A,)), [0, 0])
        self.assertEqual(refuted_by((LEFT, (0, 1)), (1,), (), (A,)), [1])
        self.assertEqual(refuted_by((LEFT, (0, 1)), (0,), (), (NONE,)), [0])

    def test_a_word_that_is_taken(self):
        begins = (*ALL, A, ("behind", 2, 1))
        self.assertEqual(refuted_by((RIGHT, (0, 1)), (), (1,), begins), [0, 1])
        self.assertEqual(refuted_by((LEFT, (0, 1)), (), (1,), ALL), [1])
        self.assertEqual(refuted_by((LEFT, (1, 0)), (1,), (0,), ALL), [1])

    def test_none(self):
        begins = (*ALL, A, ("behind", 2, 1))
        self.assertIsNone(refuted_by((LEFT, (0, 1)), (0,), (1,), begins))
        self.assertIsNone(refuted_by((LEFT, (0, 1)), (0, 1), (), ALL))
        self.assertIsNone(refuted_by((LEFT, (0, 1)), (), (0, 1), (NONE,)))
        ends = (*ALL, A, ("behind", 1, 2))
        self.assertIsNone(refuted_by((RIGHT, (0, 1)), (0,), (1,), ends))

    def test_the_first_word_in_order(self):
        # Both refute: [1] is taken and should not be, [0, 0] is not taken and should be.
        lines = (A, B, ("or", 0, 1))
        self.assertEqual(refuted_by((LEFT, (0, 1)), (0,), (1,), lines), [1])
        # No word of one letter does; of two letters the first one does.
        self.assertEqual(refuted_by((ABSORB, (0, 1)), (0,), (1,), (A,)), [0, 0])
        self.assertEqual(
            refuted_by((ABSORB, (0, 1)), (1,), (0,), (B, ("behind", 0, 0), ("or", 0, 1))), [0, 1])
        # The shorter one comes ahead of the one with smaller letters.
        self.assertEqual(refuted_by((ADD3, (1, 2)), (2,), (0,), (B,)), [0, 0])

    def test_a_long_word(self):
        for many in (9, 41, 97):
            lines = repeated(many)
            self.assertEqual(refuted_by((ADD2, (1,)), (), (1,), lines), [0] * many)
            lines += (("not", many - 1),)
            self.assertEqual(refuted_by((ADD2, (1,)), (1,), (), lines), [0] * many)

    def test_the_empty_word_has_no_value(self):
        self.assertIsNone(refuted_by((LEFT, (0, 1)), (), (0, 1), (EMPTY,)))
        not_empty = (EMPTY, ("not", 0))
        self.assertIsNone(refuted_by((LEFT, (0, 1)), (0, 1), (), not_empty))
        self.assertEqual(refuted_by((LEFT, (0, 1)), (0, 1), (), (EMPTY,)), [0])

    def test_empty_sets(self):
        for lines in ((NONE,), (EMPTY,), ALL, (A,)):
            self.assertIsNone(refuted_by((LEFT, (0, 1)), (), (), lines))

    def test_a_value_that_is_in_both_sets(self):
        for lines in ((NONE,), (EMPTY,), ALL, (A,), (B,)):
            self.assertEqual(refuted_by((LEFT, (0, 1)), (1,), (1,), lines), [1])
        self.assertEqual(refuted_by((COUNT4, (0,)), (2,), (2,), (A,)), [0, 0, 0])
        self.assertEqual(refuted_by((COUNT4, (0,)), (0, 2), (2, 3), (A,)), [0, 0, 0])

    def test_a_value_in_both_sets_that_has_no_word(self):
        self.assertIsNone(refuted_by((ADD2, (0,)), (1,), (1,), ALL))

    def test_letters_of_the_filter_that_the_semigroup_does_not_have(self):
        self.assertIsNone(refuted_by((ADD2, (0,)), (), (0,), (B,)))
        self.assertEqual(refuted_by((ADD2, (0,)), (0,), (), (B,)), [0])

    def test_as_the_document_says(self):
        chosen = random.Random(20)
        tables = [((0,),), ADD2, ADD3, LEFT, RIGHT, ABSORB, COUNT4]
        found = {True: 0, False: 0}
        for lines in some_filters(250, 6, 21):
            table = chosen.choice(tables)
            n = len(table)
            letters = tuple(chosen.randrange(n) for _ in range(chosen.randint(1, 3)))
            first = tuple(v for v in range(n) if chosen.random() < 0.4)
            second = tuple(v for v in range(n) if chosen.random() < 0.4)
            semigroup = (table, letters)
            word = refuted_by(semigroup, first, second, lines)
            found[word is None] += 1
            if word is None or len(word) > 5:
                self.assertIsNone(plain_refuted(semigroup, first, second, lines, 5))
            else:
                self.assertEqual(word, plain_refuted(semigroup, first, second, lines, 5))
        self.assertGreater(min(found.values()), 20)


class JudgeErrors(unittest.TestCase):
    def test_semigroups(self):
        told = [
            (((), (0,)), "table"),
            ((LEFT, ()), "letters"),
            ((LEFT, (2,)), "letters"),
            ((((1, 0), (0, 0)), (0,)), "associative"),
        ]
        for semigroup, word in told:
            for lines in ((A,), (), repeated(99)):
                with self.subTest(word=word, lines=len(lines)):
                    with self.assertRaises(InvalidSemigroup) as caught:
                        refuted_by(semigroup, (0,), (), lines)
                    self.assertEqual(caught.exception.word, word)

    def test_filters(self):
        told = [((), 0), ((A, ("not", 1)), 1), (repeated(99) + (("nothing",),), 99),
                (repeated(301), 300)]
        for lines, number in told:
            with self.subTest(number=number):
                with self.assertRaises(InvalidFilter) as caught:
                    refuted_by((LEFT, (0, 1)), (0,), (1,), lines)
                self.assertEqual(caught.exception.number, number)

    def test_states(self):
        for lines in (repeated(99), repeated(99) + (NONE,)):
            for first, second in (((0,), (1,)), ((), ()), ((0,), (0,))):
                with self.assertRaises(TooManyStates):
                    refuted_by((LEFT, (0, 1)), first, second, lines)

    def test_it_takes_the_letters_of_the_semigroup(self):
        # With one letter the reader has 52 states, with two it would have 101.
        self.assertEqual(refuted_by((LEFT, (0,)), (), (0,), repeated(50)), [0] * 50)
        with self.assertRaises(TooManyStates):
            refuted_by((LEFT, (0, 0)), (), (0,), repeated(50))


if __name__ == "__main__":
    unittest.main()
