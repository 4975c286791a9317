"""Points [31] and [32]: sets told apart by the lengths of their words."""

import itertools
import unittest

from partfilter.lengths import lengths_apart, reduced
from partfilter.semigroups import value_of
from tables import (
    ABSORB, ADD2, ADD3, ADD4, COUNT4, LEFT, ONE, RIGHT, TAIL, check_faults, check_no_sets,
    semigroups_up_to, sets_of, some_semigroups,
)

# Far more lengths than any threshold and modulus here need.
MOST = 60


def lengths_of(semigroup, values):
    """The lengths up to MOST of the words that have a value of a set."""
    table, letters = semigroup
    found, now = [], set(letters)
    for length in range(1, MOST + 1):
        if now & set(values):
            found.append(length)
        now = {table[a][b] for a in now for b in letters}
    return found


def are_alike(one, two, threshold, modulus):
    return one == two or (min(one, two) >= threshold and one % modulus == two % modulus)


def plain_reduced(length, threshold, modulus):
    return next(k for k in itertools.count() if are_alike(k, length, threshold, modulus))


def plain_apart(semigroup, first, second):
    """What is returned where no two words have the same length, told anew from points [31] and [32]."""
    ones, twos = lengths_of(semigroup, first), lengths_of(semigroup, second)
    for total in itertools.count(1):
        for threshold in range(total):
            modulus = total - threshold
            one = {plain_reduced(length, threshold, modulus) for length in ones}
            two = {plain_reduced(length, threshold, modulus) for length in twos}
            if not one & two:
                return "apart", threshold, modulus, sorted(one)


def plain_words(semigroup, first, second, length):
    """The first words of this length of both sets, or None if one of them has none."""
    found = []
    for values in (first, second):
        words = [list(word) for word in itertools.product(range(len(semigroup[1])), repeat=length)
                 if value_of(semigroup, word) in values]
        found.extend(words[:1])
    return found if len(found) == 2 else None


class Words(unittest.TestCase):
    def test_the_least_length(self):
        self.assertEqual(lengths_apart((ADD2, (1, 0)), (0,), (1,)), ("words", [[1], [0]]))
        self.assertEqual(lengths_apart((ADD3, (1, 2)), (0,), (1,)), ("words", [[0, 1], [1, 1]]))
        self.assertEqual(lengths_apart((COUNT4, (0, 1)), (1,), (2,)), ("words", [[0, 0], [0, 1]]))
        self.assertEqual(lengths_apart((COUNT4, (0, 1)), (0,), (2, 3)), ("apart", 2, 1, [1]))

    def test_the_first_words_of_that_length(self):
        self.assertEqual(lengths_apart((ADD2, (1, 0)), (0, 1), (0, 1)), ("words", [[0], [0]]))
        self.assertEqual(lengths_apart((ADD2, (1, 1, 0)), (0, 1), (0,)), ("words", [[0], [2]]))
        self.assertEqual(lengths_apart((ADD4, (1, 3)), (0,), (2,)), ("words", [[0, 1], [0, 0]]))
        self.assertEqual(lengths_apart((ADD4, (3, 1)), (2,), (0,)), ("words", [[0, 0], [0, 1]]))

    def test_a_word_that_is_not_the_first_one_of_its_value(self):
        # The value 0 has a shorter word, and the value 2 has none.
        self.assertEqual(lengths_apart((ADD3, (0, 1)), (0,), (2,)), ("words", [[0, 0], [1, 1]]))

    def test_both_sets_have_the_same_word(self):
        self.assertEqual(lengths_apart((ONE, (0,)), (0,), (0,)), ("words", [[0], [0]]))
        name, words = lengths_apart((ONE, (0,)), (0,), (0,))
        words[0].append(5)
        self.assertEqual((name, words[1]), ("words", [0]))

    def test_the_order_of_the_two(self):
        self.assertEqual(lengths_apart((LEFT, (0, 1)), (0,), (1,)), ("words", [[0], [1]]))
        self.assertEqual(lengths_apart((LEFT, (0, 1)), (1,), (0,)), ("words", [[1], [0]]))
        self.assertEqual(lengths_apart((LEFT, (0, 1)), (0, 1), (1,)), ("words", [[0], [1]]))


class Apart(unittest.TestCase):
    def test_remainders(self):
        self.assertEqual(lengths_apart((ADD2, (1,)), (0,), (1,)), ("apart", 0, 2, [0]))
        self.assertEqual(lengths_apart((ADD2, (1,)), (1,), (0,)), ("apart", 0, 2, [1]))
        self.assertEqual(lengths_apart((ADD3, (1,)), (0,), (1, 2)), ("apart", 0, 3, [0]))
        self.assertEqual(lengths_apart((ADD3, (2,)), (0, 1), (2,)), ("apart", 0, 3, [0, 2]))
        self.assertEqual(lengths_apart((ADD4, (1,)), (1,), (2,)), ("apart", 0, 2, [1]))
        self.assertEqual(lengths_apart((ADD4, (1,)), (1,), (3,)), ("apart", 0, 4, [1]))

    def test_thresholds_and_modulus_1(self):
        self.assertEqual(lengths_apart((COUNT4, (0,)), (0,), (3,)), ("apart", 2, 1, [1]))
        self.assertEqual(lengths_apart((COUNT4, (0,)), (3,), (0,)), ("apart", 2, 1, [2]))
        self.assertEqual(lengths_apart((COUNT4, (0,)), (0, 1, 2), (3,)), ("apart", 4, 1, [1, 2, 3]))

    def test_the_least_sum_and_of_those_the_least_threshold(self):
        # The lengths 1 and 2 are told apart by the modulus 2 alone, as well as by the threshold 2.
        self.assertEqual(lengths_apart((COUNT4, (0,)), (0,), (1,)), ("apart", 0, 2, [1]))
        self.assertEqual(lengths_apart((COUNT4, (0,)), (0,), (2,)), ("apart", 0, 3, [1]))
        self.assertEqual(lengths_apart((COUNT4, (0,)), (0, 2), (1,)), ("apart", 0, 2, [1]))
        # The lengths 1, 3, 5 and so on against 2, 4 and so on; and the length 1 against 3, 5 and so on.
        self.assertEqual(lengths_apart((TAIL, (0,)), (0, 2), (1,)), ("apart", 0, 2, [1]))
        self.assertEqual(lengths_apart((TAIL, (0,)), (0,), (2,)), ("apart", 2, 1, [1]))
        self.assertEqual(lengths_apart((TAIL, (0,)), (0, 1), (2,)), ("apart", 2, 2, [1, 2]))

    def test_threshold_and_modulus_both(self):
        self.assertEqual(lengths_apart((TAIL, (0,)), (2,), (0, 1)), ("apart", 2, 2, [3]))

    def test_reduced_lengths_below_1(self):
        # The number 0 is no length of a word with a value, but lengths are alike to it.
        self.assertEqual(lengths_apart((LEFT, (0, 0)), (0,), (1,)), ("apart", 0, 1, [0]))

    def test_empty_sets(self):
        for semigroup in ((ADD2, (1,)), (COUNT4, (0, 1)), (LEFT, (1, 0, 1))):
            self.assertEqual(lengths_apart(semigroup, (), ()), ("apart", 0, 1, []))
            self.assertEqual(lengths_apart(semigroup, (), (0, 1)), ("apart", 0, 1, []))
            self.assertEqual(lengths_apart(semigroup, (0, 1), ()), ("apart", 0, 1, [0]))

    def test_sets_of_values_without_words(self):
        self.assertEqual(lengths_apart((ADD4, (2,)), (1,), (3,)), ("apart", 0, 1, []))
        self.assertEqual(lengths_apart((ADD4, (2,)), (1, 3), (0, 2)), ("apart", 0, 1, []))
        self.assertEqual(lengths_apart((ADD4, (2,)), (0, 2), (1, 3)), ("apart", 0, 1, [0]))
        self.assertEqual(lengths_apart((ADD4, (2,)), (0, 1), (2, 3)), ("apart", 0, 2, [0]))
        self.assertEqual(lengths_apart((RIGHT, (0,)), (1,), (1,)), ("apart", 0, 1, []))

    def test_a_common_value_without_words(self):
        self.assertEqual(lengths_apart((ABSORB, (1,)), (0,), (0, 1)), ("apart", 0, 1, []))


class Reduced(unittest.TestCase):
    def test_all_small_numbers(self):
        for threshold, modulus, length in itertools.product(range(7), range(1, 7), range(1, 25)):
            self.assertEqual(
                reduced(length, threshold, modulus), plain_reduced(length, threshold, modulus))


class All(unittest.TestCase):
    def check(self, semigroup, first, second):
        found = lengths_apart(semigroup, first, second)
        common = set(lengths_of(semigroup, first)) & set(lengths_of(semigroup, second))
        if common:
            self.assertEqual(found, ("words", plain_words(semigroup, first, second, min(common))))
        else:
            self.assertEqual(found, plain_apart(semigroup, first, second))
        return found[0]

    def test_all_semigroups_of_up_to_2_values(self):
        for semigroup in semigroups_up_to(2):
            for first, second in itertools.product(sets_of(semigroup[0]), repeat=2):
                self.check(semigroup, first, second)

    def test_one_letter(self):
        for semigroup in list(semigroups_up_to(3, 1)) + [(ADD4, (1,)), (ADD4, (2,)), (COUNT4, (0,))]:
            for first, second in itertools.product(sets_of(semigroup[0]), repeat=2):
                if not set(first) & set(second):
                    self.check(semigroup, first, second)

    def test_some_semigroups_of_several_letters(self):
        kinds = []
        for semigroup in some_semigroups(120, 31):
            for first, second in (((0,), (1,)), ((2,), (0,)), ((0, 1), (2,)), ((1, 2), (0,))):
                kinds.append(self.check(semigroup, first, second))
        self.assertGreater(min(kinds.count("words"), kinds.count("apart")), 100)

    def test_kinds(self):
        found = lengths_apart((ADD2, (1,)), (0,), (1,))
        self.assertIsInstance(found, tuple)
        self.assertIsInstance(found[3], list)
        found = lengths_apart((LEFT, (0, 1)), (0,), (1,))
        self.assertIsInstance(found, tuple)
        self.assertIsInstance(found[1], list)
        self.assertEqual([type(word) for word in found[1]], [list, list])


class Faults(unittest.TestCase):
    def test_the_semigroup(self):
        check_faults(self, lambda semigroup: lengths_apart(semigroup, (), ()))
        check_faults(self, lambda semigroup: lengths_apart(semigroup, (1, 0), (9,)))

    def test_the_sets(self):
        check_no_sets(self, lengths_apart)


if __name__ == "__main__":
    unittest.main()
