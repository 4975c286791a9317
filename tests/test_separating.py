"""Points [17], [25] and [26], and the whole promise: meeting, and telling two sets apart."""

import unittest
from unittest import mock

from partfilter import separating
from partfilter.classes import classes_of
from partfilter.errors import InvalidSemigroup, InvalidValue, TooManyLines, TooManyStates
from partfilter.family import family_of
from partfilter.filters import filter_fault, takes, trimmed
from partfilter.readers import refuted_by
from partfilter.semigroups import value_of
from partfilter.separating import meeting, separate
from samples import told, words_up_to
from tables import (
    ADD2, ADD3, BAND, LEFT, NILPOTENT, NO_SETS, ONE, RIGHT, check_faults, check_no_sets,
    semigroups_up_to, sets_of, some_semigroups,
)

NO_WORD = (("none",),)
# The product of two values is 0 or 3, by whether one and only one of them is 1 or 3.
HALVES = ((3, 0, 3, 0), (0, 3, 0, 3), (3, 0, 3, 0), (0, 3, 0, 3))


def plain_meeting(semigroup, sets):
    for number, (_, values) in enumerate(family_of(semigroup)):
        if all(set(values) & set(one) for one in sets):
            return number, values
    return None


def any_lines(filters):
    """Filters that are put down, as any of them, put down: the first one in front of all others."""
    if len(filters) < 2:
        return filters[0] if filters else NO_WORD
    put, last = {}, []
    for part in (filters[0], any_lines(filters[1:])):
        numbers = []
        for line in part:
            if line[0] != "letter":
                line = (line[0], *[numbers[i] for i in line[1:]])
            numbers.append(put.setdefault(line, len(put)))
        last.append(numbers[-1])
    return (*put, ("or", *last))


def plain_separate(semigroup, first, second):
    """What is returned, or the class of the error, told anew from point [25]."""
    met = plain_meeting(semigroup, [first, second])
    if met:
        return ("met", *met)
    found = told(classes_of, semigroup)
    if found == TooManyLines:
        return found
    lines = any_lines([lines for lines, bound in found if not set(bound) & set(second)])
    return TooManyLines if len(lines) > 300 else ("filter", lines)


class Meeting(unittest.TestCase):
    def test_one_set(self):
        # The family has the sets (1,), (0, 1) and (0,), in this order.
        self.assertEqual(meeting((ADD2, (1,)), [(1,)]), (0, (1,)))
        self.assertEqual(meeting((ADD2, (1,)), [(0,)]), (1, (0, 1)))
        self.assertEqual(meeting((ADD2, (1,)), [(0, 1)]), (0, (1,)))

    def test_two_sets(self):
        self.assertEqual(meeting((ADD2, (1,)), [(0,), (1,)]), (1, (0, 1)))
        self.assertEqual(meeting((ADD2, (1,)), [(1,), (0,)]), (1, (0, 1)))
        self.assertEqual(meeting((ADD2, (1,)), [(1,), (0, 1)]), (0, (1,)))

    def test_many_sets(self):
        # The sets are (1,), (0, 1), (2,), (0, 1, 2), (1, 2), (0, 2) and (0,).
        self.assertEqual(meeting((ADD3, (1,)), [(0,), (1,), (2,)]), (3, (0, 1, 2)))
        self.assertEqual(meeting((ADD3, (1,)), [(1,), (2,), (1,), (2,)]), (3, (0, 1, 2)))
        self.assertEqual(meeting((ADD3, (1,)), [(1, 2), (0, 2), (2,)]), (2, (2,)))
        self.assertEqual(meeting((ADD3, (1,)), [(0, 1, 2)] * 10), (0, (1,)))

    def test_none(self):
        self.assertIsNone(meeting((LEFT, (0, 1)), [(0,), (1,)]))
        self.assertIsNone(meeting((BAND, (0, 3)), [(0,), (0, 1), (1, 2)]))
        self.assertIsNone(meeting((ONE, (0,)), [()]))
        # The value 1 has no word.
        self.assertIsNone(meeting((LEFT, (0,)), [(1,)]))

    def test_an_empty_set_among_them(self):
        for sets in ([()], [(), (0, 1)], [(0, 1), ()], [(0,), (), (1,)], [(), ()]):
            self.assertIsNone(meeting((ADD2, (1,)), sets))

    def test_the_number_zero_and_a_pair(self):
        found = meeting((ONE, (0,)), [(0,)])
        self.assertEqual(found, (0, (0,)))
        self.assertIsInstance(found, tuple)
        self.assertIsInstance(found[1], tuple)

    def test_all_pairs_of_sets(self):
        for semigroup in list(semigroups_up_to(2)) + list(some_semigroups(40, 17)):
            for one in sets_of(semigroup[0]):
                self.assertEqual(meeting(semigroup, [one]), plain_meeting(semigroup, [one]))
                for two in sets_of(semigroup[0]):
                    self.assertEqual(meeting(semigroup, [one, two]), plain_meeting(semigroup, [one, two]))

    def test_three_sets(self):
        for one in sets_of(ADD3):
            for two in sets_of(ADD3):
                sets = [one, two, (1, 2)]
                self.assertEqual(meeting((ADD3, (1, 2)), sets), plain_meeting((ADD3, (1, 2)), sets))

    def test_the_sets_stay_as_they_were(self):
        sets = [(0,), (1,)]
        meeting((ADD2, (1,)), sets)
        self.assertEqual(sets, [(0,), (1,)])


class Separate(unittest.TestCase):
    def test_met(self):
        self.assertEqual(separate((ADD2, (1,)), (0,), (1,)), ("met", 1, (0, 1)))
        self.assertEqual(separate((ONE, (0,)), (0,), (0,)), ("met", 0, (0,)))

    def test_met_ahead_of_any_question(self):
        with mock.patch.object(separating, "classes_of", side_effect=AssertionError):
            self.assertEqual(separate((ADD2, (1,)), (0,), (1,)), ("met", 1, (0, 1)))
            # The classes of this semigroup are refused.
            self.assertEqual(separate((NILPOTENT, (1, 2, 3)), (0, 1), (0,)), ("met", 3, (0,)))

    def test_a_filter(self):
        found = classes_of((RIGHT, (0, 1)))
        self.assertEqual(separate((RIGHT, (0, 1)), (0,), (1,)), ("filter", found[0][0]))
        self.assertEqual(separate((RIGHT, (0, 1)), (1,), (0,)), ("filter", found[1][0]))
        self.assertEqual(separate((RIGHT, (0, 1)), (1,), (0,)), (
            "filter", (("none",), ("not", 0), ("letter", 1), ("behind", 1, 2))))

    def test_any_of_several_classes_in_order(self):
        table = ((0, 1, 2),) * 3
        lines = (("none",), ("not", 0), ("letter", 0), ("behind", 1, 2), ("letter", 2), ("behind", 1, 4),
                 ("or", 3, 5))
        self.assertEqual(separate((table, (2, 1, 0)), (2,), (1,)), ("filter", lines))
        lines = (("none",), ("not", 0), ("letter", 0), ("behind", 1, 2), ("letter", 1), ("behind", 1, 4),
                 ("letter", 2), ("behind", 1, 6), ("or", 5, 7), ("or", 3, 8))
        self.assertEqual(separate((table, (2, 1, 0)), (), ()), ("filter", lines))

    def test_a_class_that_has_no_value_of_the_first_set_counts_too(self):
        found = classes_of((LEFT, (0, 1)))
        lines = any_lines([lines for lines, _ in found])
        self.assertEqual(separate((LEFT, (0, 1)), (0,), ()), ("filter", lines))
        self.assertEqual(separate((LEFT, (0, 1)), (), ()), ("filter", lines))

    def test_no_class_at_all(self):
        self.assertEqual(separate((LEFT, (0, 1)), (), (0, 1)), ("filter", NO_WORD))
        self.assertEqual(separate((ONE, (0,)), (), (0,)), ("filter", NO_WORD))
        # The value 1 has no word.
        self.assertEqual(separate((LEFT, (0,)), (1,), (0,)), ("filter", NO_WORD))

    def test_more_than_300_lines_of_classes_that_are_not_refused(self):
        semigroup = (HALVES, (2, 1))
        self.assertLessEqual(max(len(lines) for lines, _ in classes_of(semigroup)), 300)
        for first in ((), (0,), (0, 1, 2, 3)):
            with self.assertRaises(TooManyLines):
                separate(semigroup, first, ())
        self.assertEqual(separate(semigroup, (), (0, 1, 2, 3)), ("filter", NO_WORD))

    def test_more_than_300_lines_of_a_class(self):
        for first, second in (((), ()), ((0,), (1,)), ((), (0, 1, 2, 3))):
            with self.assertRaises(TooManyLines):
                separate((NILPOTENT, (1, 2, 3)), first, second)

    def test_all_of_some_semigroups(self):
        kinds = {"met": 0, "filter": 0, TooManyLines: 0}
        for semigroup in list(semigroups_up_to(2, 2)) + list(some_semigroups(20, 18)) + [(HALVES, (2, 1))]:
            for first in sets_of(semigroup[0]):
                for second in sets_of(semigroup[0]):
                    found = told(separate, semigroup, first, second)
                    self.assertEqual(found, plain_separate(semigroup, first, second))
                    kinds[found if found == TooManyLines else found[0]] += 1
        self.assertGreater(min(kinds.values()), 10)

    def test_filters_are_valid_and_trimmed(self):
        for semigroup in some_semigroups(60, 27):
            found = told(separate, semigroup, (0,), (1, 2))
            if found != TooManyLines and found[0] == "filter":
                self.assertIsNone(filter_fault(found[1]))
                self.assertEqual(trimmed(found[1]), found[1])


class Apart(unittest.TestCase):
    """Point [26]."""

    def test_no_word_refutes_a_filter(self):
        judged = 0
        for semigroup in list(semigroups_up_to(3, 2))[::9] + list(some_semigroups(30, 26)):
            many = len(semigroup[0])
            pairs = [(tuple(x for x in range(many) if x not in one), one) for one in sets_of(semigroup[0])]
            pairs += [((0,), (many - 1,)), ((many - 1,), (0,))]
            for first, second in pairs:
                found = told(separate, semigroup, first, second)
                if found != TooManyLines and found[0] == "filter":
                    try:
                        self.assertIsNone(refuted_by(semigroup, first, second, found[1]))
                        judged += 1
                    except TooManyStates:
                        self.check_words(semigroup, first, second, found[1])
        self.assertGreater(judged, 200)

    def check_words(self, semigroup, first, second, lines):
        letters = len(semigroup[1])
        for word in words_up_to(letters, {1: 9, 2: 5, 3: 3}[letters]):
            if word and value_of(semigroup, word) in first + second:
                self.assertEqual(takes(lines, word), value_of(semigroup, word) in first, (semigroup, word))


class Faults(unittest.TestCase):
    def test_the_semigroup(self):
        check_faults(self, lambda semigroup: meeting(semigroup, [(0,)]))
        check_faults(self, lambda semigroup: meeting(semigroup, [(9, 8), ()]))
        check_faults(self, lambda semigroup: separate(semigroup, (), ()))
        check_faults(self, lambda semigroup: separate(semigroup, (7,), (1, 0)))

    def test_two_sets(self):
        check_no_sets(self, separate)
        check_no_sets(self, lambda semigroup, first, second: meeting(semigroup, [first, second]))

    def test_a_set_at_each_place_of_a_list(self):
        for wrong in NO_SETS:
            for many in (1, 2, 4):
                for at in range(many):
                    for other in ((), (0, 1, 2)):
                        sets = [other] * at + [wrong] + [other] * (many - at - 1)
                        with self.assertRaises(InvalidValue):
                            meeting((ADD3, (1,)), sets)
                        with self.assertRaises(InvalidSemigroup):
                            meeting((ADD3, ()), sets)


if __name__ == "__main__":
    unittest.main()
