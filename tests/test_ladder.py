"""Points [37] and [38]: which kinds of tests tell two sets of values apart."""

import itertools
import unittest

from partfilter.ends import ends_apart
from partfilter.errors import NoLength, TooManyLines
from partfilter.ladder import ladder
from partfilter.lengths import lengths_apart
from partfilter.separating import meeting, separate
from samples import told
from tables import (
    ABSORB, ADD2, ADD4, BAND, COUNT4, LEFT, NILPOTENT, ONE, RIGHT, check_faults, check_no_sets,
    semigroups_up_to, sets_of, some_semigroups,
)



def some_size(semigroup, first, second):
    """Whether some size tells the sets apart: for up to 4 values 4 letters are enough."""
    found = told(ends_apart, semigroup, first, second, 5)
    return found != NoLength and found[0] == "apart"


def plain_ladder(semigroup, first, second):
    return (
        lengths_apart(semigroup, first, second)[0] == "apart",
        some_size(semigroup, first, second),
        meeting(semigroup, [first, second]) is None,
    )


class Ladder(unittest.TestCase):
    def test_lengths_alone(self):
        self.assertEqual(ladder((ADD2, (1,)), (0,), (1,)), (True, False, False))
        self.assertEqual(ladder((ADD4, (1,)), (0, 2), (1,)), (True, False, False))

    def test_sizes_and_filters(self):
        self.assertEqual(ladder((LEFT, (0, 1)), (0,), (1,)), (False, True, True))
        self.assertEqual(ladder((RIGHT, (0, 1)), (0,), (1,)), (False, True, True))
        self.assertEqual(ladder((BAND, (0, 3)), (0, 1), (2, 3)), (False, True, True))

    def test_filters_alone(self):
        # The letter 1 somewhere in the word: neither beginnings nor lengths tell.
        self.assertEqual(ladder((ABSORB, (0, 1)), (0,), (1,)), (False, False, True))

    def test_all_three(self):
        self.assertEqual(ladder((COUNT4, (0,)), (0,), (1,)), (True, True, True))
        # A size of 4 letters is needed here.
        self.assertEqual(ladder((COUNT4, (0,)), (2,), (3,)), (True, True, True))

    def test_none_of_them(self):
        self.assertEqual(ladder((ONE, (0,)), (0,), (0,)), (False, False, False))
        self.assertEqual(ladder((ADD2, (0, 1)), (0,), (1,)), (False, False, False))
        self.assertEqual(ladder((LEFT, (0, 1)), (0, 1), (1,)), (False, False, False))

    def test_lengths_and_filters_without_sizes(self):
        # The value tells the remainder of the length by 2, and whether the letter 1 is in the word.
        table = ((0, 1, 2, 3), (1, 0, 3, 2), (2, 3, 3, 2), (3, 2, 2, 3))
        self.assertEqual(ladder((table, (1, 2)), (0,), (2,)), (True, False, True))
        self.assertEqual(ladder((table, (1, 2)), (1,), (3,)), (True, False, True))

    def test_each_answer_that_can_be(self):
        # Not those where a size tells the sets apart and no filter does.
        table = ((0, 1, 2, 3), (1, 0, 3, 2), (2, 3, 3, 2), (3, 2, 2, 3))
        semigroups = list(semigroups_up_to(3, 2)) + [(table, (1, 2))]
        answers = {ladder(semigroup, (0,), (len(semigroup[0]) - 2,)) for semigroup in semigroups
                   if len(semigroup[0]) > 1}
        self.assertEqual(answers, {
            answer for answer in itertools.product((True, False), repeat=3) if answer[2] or not answer[1]})

    def test_empty_sets(self):
        for semigroup in ((ADD2, (1,)), (LEFT, (0, 1)), (ABSORB, (0, 1))):
            for first, second in (((), ()), ((), (0, 1)), ((0, 1), ())):
                self.assertEqual(ladder(semigroup, first, second), (True, True, True))

    def test_sets_of_values_without_words(self):
        self.assertEqual(ladder((ADD4, (2,)), (1, 3), (0, 1, 2, 3)), (True, True, True))
        self.assertEqual(ladder((LEFT, (0,)), (1,), (1,)), (True, True, True))

    def test_all_pairs_of_sets(self):
        for semigroup in list(semigroups_up_to(2)) + list(some_semigroups(30, 39)):
            for first, second in itertools.product(sets_of(semigroup[0]), repeat=2):
                found = ladder(semigroup, first, second)
                self.assertEqual(found, plain_ladder(semigroup, first, second))
                # Sizes tell no more than filters do.
                self.assertLessEqual(found[1], found[2])

    def test_kinds(self):
        for first, second in itertools.product(sets_of(LEFT), repeat=2):
            found = ladder((LEFT, (0, 1)), first, second)
            self.assertIsInstance(found, tuple)
            self.assertEqual([type(one) for one in found], [bool] * 3)

    def test_a_filter_of_any_number_of_lines(self):
        # It would have too many lines for separate.
        with self.assertRaises(TooManyLines):
            separate((NILPOTENT, (1, 2, 3)), (1,), (2,))
        self.assertEqual(ladder((NILPOTENT, (1, 2, 3)), (1,), (2,))[2], True)

    def test_the_third_one_and_separate(self):
        for semigroup in some_semigroups(40, 40):
            for first, second in (((0,), (1,)), ((1,), (2,)), ((0, 1), (2,))):
                found = told(separate, semigroup, first, second)
                met = found != TooManyLines and found[0] == "met"
                self.assertEqual(ladder(semigroup, first, second)[2], not met)


class Faults(unittest.TestCase):
    def test_the_semigroup(self):
        check_faults(self, lambda semigroup: ladder(semigroup, (), ()))
        check_faults(self, lambda semigroup: ladder(semigroup, (0,), (5, 4)))

    def test_the_sets(self):
        check_no_sets(self, ladder)


if __name__ == "__main__":
    unittest.main()
