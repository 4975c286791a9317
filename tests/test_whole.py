"""What the document promises over the whole program: the whole promise, arguments, lists, faults."""

import copy
import unittest

from partfilter.alike import are_alike
from partfilter.classes import classes_of
from partfilter.comparing import count_taken, first_difference, first_taken, least_reader
from partfilter.ends import ends_apart, round_words
from partfilter.errors import TooManyLines, TooManyStates
from partfilter.family import family_of
from partfilter.filters import filter_fault, takes
from partfilter.ladder import ladder
from partfilter.lengths import lengths_apart
from partfilter.machines import machine_takes, semigroup_of
from partfilter.notation import format_word, parse_filter, parse_machine, parse_semigroup, parse_word
from partfilter.readers import reader_of, refuted_by
from partfilter.semigroups import first_words, value_of
from partfilter.separating import meeting, separate
from partfilter.unseen import unseen, word_of
from partfilter.workshop import Workshop
from samples import words_up_to
from tables import (
    ADD2, LEFT, NILPOTENT, check_faults, check_no_sets, semigroups_up_to, sets_of, some_semigroups,
)

COUNT = (ADD2, (1,))
BOTH = (LEFT, (0, 1))
LINES = (("none",), ("not", 0), ("letter", 0), ("behind", 2, 1))
MACHINE = (2, ((0, 1), (1, 0)), 0, (0,))
ROUNDS = ([0], [0, 0], [], [0], [0, 0], [0])

# Calls with what they are passed, all of which stays as it was.
CALLS = [
    (first_words, BOTH), (value_of, BOTH, [0, 1, 1]), (semigroup_of, MACHINE), (machine_takes, MACHINE, [0, 1]),
    (takes, LINES, [0, 1]), (are_alike, [0, 1], [0, 1], 2), (family_of, COUNT), (reader_of, LINES, 2),
    (refuted_by, BOTH, (0,), (1,), (("letter", 0),)), (first_taken, LINES, 2),
    (first_difference, LINES, (("letter", 0),), 2), (count_taken, LINES, 2, 7), (least_reader, LINES, 2),
    (reader_of, (("none",), ("not", 0)), 3), (reader_of, (("empty",), ("not", 0)), 3), (reader_of, (("letter", 2),), 2),
    (classes_of, BOTH), (meeting, COUNT, [(0,), (1,)]), (separate, COUNT, (0,), (1,)), (separate, BOTH, (0,), (1,)),
    (word_of, COUNT, 1, 0, 2), (word_of, COUNT, 0, 1, 2), (unseen, COUNT, [(0,), (1,), (0,)], 1),
    (lengths_apart, COUNT, (0,), (1,)), (lengths_apart, BOTH, (0,), (1,)), (lengths_apart, BOTH, (0,), (0,)),
    (ends_apart, BOTH, (0,), (1,), 3), (ends_apart, BOTH, (0,), (0,), 3), (ends_apart, COUNT, (0,), (1,), 3),
    (round_words, ROUNDS, 0), (round_words, ROUNDS, 2), (ladder, BOTH, (0,), (1,)), (format_word, [0, 1]),
    (parse_word, 2, "0110"), (parse_semigroup, "letters 0\nrow 0"), (parse_filter, "none\nnot 0"),
    (parse_machine, "letters 1\nrow 0\nfirst 0\nlasts"),
]


def lists_in(worth):
    """All lists in what was returned, each place for itself."""
    if isinstance(worth, list):
        yield worth
    if isinstance(worth, (list, tuple)):
        for part in worth:
            yield from lists_in(part)


class ArgumentsAndLists(unittest.TestCase):
    def test_arguments_stay_as_they_were(self):
        for call, *arguments in CALLS:
            with self.subTest(call=call.__name__):
                passed = copy.deepcopy(arguments)
                call(*passed)
                self.assertEqual(passed, arguments)

    def test_lists_are_new(self):
        for call, *arguments in CALLS:
            with self.subTest(call=call.__name__):
                passed = copy.deepcopy(arguments)
                found = call(*passed)
                kept = copy.deepcopy(found)
                lists = list(lists_in(found))
                self.assertEqual(len({id(one) for one in lists}), len(lists))
                for one in lists:
                    one.append("more")
                self.assertEqual(passed, arguments)
                self.assertEqual(call(*passed), kept)


class Faults(unittest.TestCase):
    """Points [2] and [4], for all functions that take a semigroup, and those that take sets of values, too."""

    with_sets = [
        lambda semigroup, first, second: meeting(semigroup, [first, second]),
        separate,
        lambda semigroup, first, second: unseen(semigroup, [first, second], 0),
        lengths_apart,
        lambda semigroup, first, second: ends_apart(semigroup, first, second, 3),
        ladder,
    ]

    def test_semigroups(self):
        for call in self.with_sets:
            check_faults(self, lambda semigroup, asked=call: asked(semigroup, (), ()))
            check_faults(self, lambda semigroup, asked=call: asked(semigroup, (1, 0), (9,)))
        for call in (family_of, classes_of, Workshop):
            check_faults(self, call)
        check_faults(self, lambda semigroup: word_of(semigroup, 0, 0, 0))
        check_faults(self, lambda semigroup: refuted_by(semigroup, (), (), ()))

    def test_sets(self):
        for call in self.with_sets:
            check_no_sets(self, call)
        check_no_sets(self, lambda semigroup, first, second: Workshop(semigroup).separate(first, second))


class Promise(unittest.TestCase):
    """The whole promise."""

    def test_a_filter_or_words_that_are_alike(self):
        answers = {"filter": 0, "met": 0, TooManyLines: 0}
        semigroups = list(semigroups_up_to(2)) + list(some_semigroups(25, 1)) + [(NILPOTENT, (1, 2, 3))]
        for semigroup in semigroups:
            for first in sets_of(semigroup[0]):
                for second in ((0,), (1,), (0, 2), tuple(x for x in range(len(semigroup[0])) if x not in first)):
                    if second[-1:] < (len(semigroup[0]),):
                        answers[self.check(semigroup, first, second)] += 1
        self.assertGreater(min(answers.values()), 20)

    def check(self, semigroup, first, second):
        met = meeting(semigroup, [first, second])
        try:
            found = separate(semigroup, first, second)
        except TooManyLines:
            self.assertIsNone(met)
            return TooManyLines
        self.assertEqual(found[0], "filter" if met is None else "met")
        if met is None:
            self.check_filter(semigroup, first, second, found[1])
        else:
            self.assertEqual(found[1:], met)
            self.check_words(semigroup, first, second, met)
        return found[0]

    def check_filter(self, semigroup, first, second, lines):
        self.assertIsNone(filter_fault(lines))
        letters = len(semigroup[1])
        try:
            self.assertIsNone(refuted_by(semigroup, first, second, lines))
        except TooManyStates:
            for word in words_up_to(letters, 4 - letters // 3):
                value = value_of(semigroup, word)
                self.assertFalse(value in first and not takes(lines, word))
                self.assertFalse(value in second and takes(lines, word))

    def check_words(self, semigroup, first, second, met):
        for depth in range(4):
            number, found = unseen(semigroup, [first, second], depth)
            self.assertEqual(number, met[0])
            (one, one_word), (two, two_word) = found
            self.assertEqual([value_of(semigroup, one_word), value_of(semigroup, two_word)], [one, two])
            self.assertTrue(one in first and two in second and one in met[1] and two in met[1])
            if max(len(one_word), len(two_word)) <= 20:
                self.assertTrue(are_alike(one_word, two_word, depth))


if __name__ == "__main__":
    unittest.main()
