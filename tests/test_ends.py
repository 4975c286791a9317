"""Points [33] to [37]: sets told apart by the beginnings and ends of their words, and rounds."""

import copy
import itertools
import unittest

from partfilter.ends import ends_apart, ends_differ, round_words, rounds_of
from partfilter.errors import NoLength
from partfilter.semigroups import first_words, value_of
from samples import told, words_up_to
from tables import (
    ADD2, ADD3, ADD4, BAND, COUNT3, COUNT4, LEFT, ONE, RIGHT, check_faults, check_no_sets,
    semigroups_up_to, sets_of, some_semigroups,
)


def are_alike(one, two, size):
    """Point [33], told anew."""
    if one == two:
        return True
    return (len(one) >= size and len(two) >= size and one[:size] == two[:size]
            and one[len(one) - size:] == two[len(two) - size:])


def plain_apart(semigroup, first, second, size):
    """Whether a size tells apart two sets without a common word: short words, and longer ones by their middles."""
    table, letters = semigroup
    middles = {value for value, _ in first_words(semigroup)}
    ends = [list(word) for word in itertools.product(range(len(letters)), repeat=size)]
    groups = {}
    for length in range(max(size, 1), 2 * size):
        for word in itertools.product(range(len(letters)), repeat=length):
            key = (word[:size], word[length - size:])
            groups.setdefault(key, set()).add(value_of(semigroup, word))
    for one, two in itertools.product(ends, repeat=2):
        values = groups.setdefault((tuple(one), tuple(two)), set())
        if one:
            ahead, behind = value_of(semigroup, one), value_of(semigroup, two)
            values.add(table[ahead][behind])
            values |= {table[table[ahead][value]][behind] for value in middles}
        else:
            values |= middles
    return not any(values & set(first) and values & set(second) for values in groups.values())


def plain_rounds(semigroup, first, second):
    """The rounds, told anew from point [35], or None."""
    table, letters = semigroup
    words = [word for _, word in first_words(semigroup)]

    def value(*parts):
        return value_of(semigroup, [letter for part in parts for letter in part])

    def middle(head, tail, values):
        return next((word for word in [[]] + words if value(head, word, tail) in values), None)

    for head in words:
        loop = next((word for word in words if value(head, word) == value(head)), None)
        if loop is None:
            continue
        for tail in words:
            back = next((word for word in words if value(word, tail) == value(tail)), None)
            left, right = middle(head, tail, first), middle(head, tail, second)
            if back is not None and left is not None and right is not None:
                return head, loop, left, right, back, tail
    return None


def plain_ends(semigroup, first, second, most):
    for _, word in first_words(semigroup):
        if value_of(semigroup, word) in first and value_of(semigroup, word) in second:
            return "word", word
    rounds = plain_rounds(semigroup, first, second)
    if rounds:
        return "rounds", rounds
    for size in range(most + 1):
        if plain_apart(semigroup, first, second, size):
            return "apart", size
    return NoLength


class Words(unittest.TestCase):
    def test_the_first_word_of_both(self):
        self.assertEqual(ends_apart((ONE, (0,)), (0,), (0,), 0), ("word", [0]))
        self.assertEqual(ends_apart((ADD3, (1,)), (0, 2), (0, 2), 0), ("word", [0, 0]))
        self.assertEqual(ends_apart((ADD3, (2, 1)), (0, 1), (0, 1), 3), ("word", [1]))
        self.assertEqual(ends_apart((ADD3, (2, 2)), (0, 1), (0, 1), 3), ("word", [0, 0]))

    def test_ahead_of_rounds(self):
        self.assertIsNotNone(rounds_of((ADD2, (1, 0)), (0, 1), (0,)))
        self.assertEqual(ends_apart((ADD2, (1, 0)), (0, 1), (0,), 2), ("word", [1]))

    def test_a_common_value_without_words(self):
        self.assertEqual(ends_apart((LEFT, (0,)), (0, 1), (1,), 3), ("apart", 0))

    def test_the_word_is_new(self):
        _, word = ends_apart((ONE, (0,)), (0,), (0,), 0)
        word.append(3)
        self.assertEqual(ends_apart((ONE, (0,)), (0,), (0,), 0), ("word", [0]))


class Rounds(unittest.TestCase):
    def test_remainders_by_2(self):
        # The word [0] has the value 0 here, and changes nothing ahead or behind.
        self.assertEqual(
            ends_apart((ADD2, (0, 1)), (0,), (1,), 3), ("rounds", ([0], [0], [], [1], [0], [0])))
        self.assertEqual(
            ends_apart((ADD2, (0, 1)), (1,), (0,), 3), ("rounds", ([0], [0], [1], [], [0], [0])))
        # With this letter alone [0, 0] is the only one that changes nothing.
        self.assertEqual(
            ends_apart((ADD2, (1,)), (0,), (1,), 3),
            ("rounds", ([0], [0, 0], [], [0], [0, 0], [0])))

    def test_the_first_head_and_its_first_tail(self):
        # With the word [0] as the head all words are 0, and with [1] and the tail [0], too.
        self.assertEqual(ends_apart((((0, 0, 0), (1, 1, 1), (0, 1, 2)), (0, 2)), (0,), (2,), 3), (
            "rounds", ([1], [1], [0], [], [1], [1])))
        # Any product with 0 is 0, 1 changes nothing, and 2 twice is 1.
        table = ((0, 0, 0), (0, 1, 2), (0, 2, 1))
        self.assertEqual(ends_apart((table, (0, 1, 2)), (1,), (2,), 3), (
            "rounds", ([1], [1], [], [2], [1], [1])))
        self.assertEqual(ends_apart((table, (0, 2, 1)), (1,), (2,), 3), (
            "rounds", ([1], [2], [], [1], [2], [1])))

    def test_the_first_loop_and_the_first_back(self):
        # Of the words [0], [1], [0, 1] and [1, 0] the values are 3, 0, 2 and 1.
        self.assertEqual(rounds_of((BAND, (3, 0)), (2,), (2,)), ([0], [0], [], [], [1], [1]))
        self.assertEqual(rounds_of((BAND, (3, 0)), (3,), (2, 3)), ([0], [0], [], [], [0], [0]))
        # 1 changes nothing, and any product with 0 is 0.
        self.assertEqual(rounds_of((((0, 0), (0, 1)), (0, 1)), (0,), (0,)), ([0], [0], [], [], [0], [0]))
        self.assertEqual(rounds_of((((0, 0), (0, 1)), (1, 0)), (0,), (0,)), ([0], [0], [1], [1], [0], [0]))

    def test_left_and_right_that_are_the_empty_word(self):
        self.assertEqual(rounds_of((LEFT, (0, 1)), (0,), (0,)), ([0], [0], [], [], [0], [0]))
        self.assertEqual(rounds_of((LEFT, (1, 0)), (0,), (0,)), ([1], [0], [], [], [0], [0]))
        self.assertEqual(rounds_of((ADD2, (0, 1)), (0,), (0, 1)), ([0], [0], [], [], [0], [0]))

    def test_no_heads_and_no_tails(self):
        # The letters 0 and 1 are lost behind any word, and 2 is the value of all longer words: a head, too.
        self.assertEqual(rounds_of((COUNT3, (0,)), (2,), (2,)), ([0, 0, 0], [0], [], [], [0], [0, 0, 0]))
        self.assertIsNone(rounds_of((COUNT3, (0,)), (0,), (1,)))
        self.assertIsNone(rounds_of((COUNT3, (0,)), (0, 1), (2,)))

    def test_no_rounds(self):
        self.assertIsNone(rounds_of((LEFT, (0, 1)), (0,), (1,)))
        self.assertIsNone(rounds_of((RIGHT, (0, 1)), (0,), (1,)))
        self.assertIsNone(rounds_of((BAND, (0, 3)), (0, 1), (2, 3)))
        self.assertIsNone(rounds_of((ADD2, (1,)), (), (0, 1)))
        self.assertIsNone(rounds_of((ADD2, (1,)), (0, 1), ()))

    def test_against_the_point_told_anew(self):
        found = 0
        for semigroup in list(semigroups_up_to(2)) + list(some_semigroups(150, 35)):
            for first, second in itertools.product(sets_of(semigroup[0]), repeat=2):
                rounds = rounds_of(semigroup, first, second)
                self.assertEqual(rounds, plain_rounds(semigroup, first, second))
                found += rounds is not None
        self.assertGreater(found, 1000)

    def test_six_lists_of_their_own(self):
        name, rounds = ends_apart((ADD2, (0, 1)), (0,), (1,), 3)
        self.assertIsInstance(rounds, tuple)
        for word in rounds:
            self.assertIsInstance(word, list)
            word.append(9)
        self.assertEqual((name, rounds), ("rounds", ([0, 9], [0, 9], [9], [1, 9], [0, 9], [0, 9])))
        self.assertEqual(
            ends_apart((ADD2, (0, 1)), (0,), (1,), 3), ("rounds", ([0], [0], [], [1], [0], [0])))


class RoundWords(unittest.TestCase):
    rounds = ([1], [2], [], [0, 0], [3, 4], [5])

    def test_no_times(self):
        self.assertEqual(round_words(self.rounds, 0), ([1, 5], [1, 0, 0, 5]))

    def test_once(self):
        self.assertEqual(round_words(self.rounds, 1), ([1, 2, 3, 4, 5], [1, 2, 0, 0, 3, 4, 5]))

    def test_20_times(self):
        self.assertEqual(round_words(self.rounds, 20), (
            [1] + [2] * 20 + [3, 4] * 20 + [5], [1] + [2] * 20 + [0, 0] + [3, 4] * 20 + [5]))

    def test_a_tuple_of_two_lists(self):
        found = round_words(self.rounds, 3)
        self.assertIsInstance(found, tuple)
        self.assertEqual([type(word) for word in found], [list, list])

    def test_the_rounds_stay_as_they_were(self):
        rounds = copy.deepcopy(self.rounds)
        for times in (0, 1, 20):
            for word in round_words(rounds, times):
                word.append(7)
            self.assertEqual(rounds, self.rounds)

    def test_values_and_ends_of_the_words(self):
        checked = 0
        for semigroup in list(semigroups_up_to(3, 2))[::5] + list(some_semigroups(60, 36)):
            for first, second in itertools.product(sets_of(semigroup[0]), repeat=2):
                found = told(ends_apart, semigroup, first, second, 0)
                if found != NoLength and found[0] == "rounds":
                    for times in (0, 1, 2, 3, 20):
                        one, two = round_words(found[1], times)
                        self.assertIn(value_of(semigroup, one), first)
                        self.assertIn(value_of(semigroup, two), second)
                        self.assertTrue(are_alike(one, two, times))
                        checked += 1
        self.assertGreater(checked, 500)


class Sizes(unittest.TestCase):
    def test_size_0(self):
        # Any two words are alike at the size 0, so one of the sets has no words.
        for first, second in (((), ()), ((), (0, 1)), ((0, 1), ())):
            self.assertEqual(ends_apart((ADD2, (1,)), first, second, 0), ("apart", 0))
        self.assertEqual(ends_apart((ADD4, (2,)), (1, 3), (0, 2), 3), ("apart", 0))
        self.assertEqual(ends_apart((ADD4, (2,)), (0,), (1,), 0), ("apart", 0))
        self.assertEqual(ends_apart((ADD4, (2,)), (1,), (3,), 2), ("apart", 0))

    def test_size_1(self):
        for most in (1, 2, 3):
            self.assertEqual(ends_apart((LEFT, (0, 1)), (0,), (1,), most), ("apart", 1))
            self.assertEqual(ends_apart((RIGHT, (1, 0)), (0,), (1,), most), ("apart", 1))
            self.assertEqual(ends_apart((BAND, (0, 3)), (0, 3), (1, 2), most), ("apart", 1))

    def test_size_2(self):
        for most in (2, 3):
            self.assertEqual(ends_apart((COUNT4, (0,)), (0,), (1, 2, 3), most), ("apart", 2))
            self.assertEqual(ends_apart((COUNT4, (0,)), (0,), (3,), most), ("apart", 2))

    def test_size_3(self):
        self.assertEqual(ends_apart((COUNT4, (0,)), (1,), (2,), 3), ("apart", 3))
        self.assertEqual(ends_apart((COUNT4, (0, 0)), (1,), (3,), 3), ("apart", 3))
        self.assertEqual(ends_apart((COUNT4, (0, 1)), (1,), (2,), 3), ("apart", 3))

    def test_a_greatest_size_that_is_too_small(self):
        for semigroup, first, second, size in [
            ((LEFT, (0, 1)), (0,), (1,), 1),
            ((COUNT4, (0,)), (0,), (1,), 2),
            ((COUNT4, (0,)), (1,), (2,), 3),
            ((COUNT4, (0,)), (2,), (3,), 4),
        ]:
            for most in range(4):
                if most < size:
                    with self.assertRaises(NoLength):
                        ends_apart(semigroup, first, second, most)
                else:
                    self.assertEqual(ends_apart(semigroup, first, second, most), ("apart", size))

    def test_a_word_and_rounds_ahead_of_a_size_that_is_too_small(self):
        self.assertEqual(ends_apart((LEFT, (0, 1)), (0, 1), (1,), 0), ("word", [1]))
        self.assertEqual(ends_apart((ADD2, (0, 1)), (0,), (1,), 0)[0], "rounds")

    def test_words_that_are_short(self):
        # The words [0] and [0, 0] are alike at the size 1, but not at the size 2, where [0] is too short.
        self.assertTrue(ends_differ((COUNT4, (0,)), (0,), (1,), 2))
        self.assertFalse(ends_differ((COUNT4, (0,)), (0,), (1,), 1))
        # The beginning and the end of a word may have letters in common: [0, 1, 0] and [0, 1, 0, 1, 0].
        self.assertTrue(are_alike([0, 1, 0], [0, 1, 0, 1, 0], 2))

    def test_against_words(self):
        for semigroup in list(semigroups_up_to(2)) + list(some_semigroups(40, 33)):
            words = [word for word in words_up_to(len(semigroup[1]), 4) if word]
            values = [value_of(semigroup, word) for word in words]
            for first, second in (((0,), (1,)), ((0,), (len(semigroup[0]) - 1,))):
                if not set(first) & set(second):
                    for size in range(4):
                        if ends_differ(semigroup, first, second, size):
                            self.check_words(words, values, first, second, size)

    def check_words(self, words, values, first, second, size):
        ones = [word for word, value in zip(words, values) if value in first]
        twos = [word for word, value in zip(words, values) if value in second]
        for one, two in itertools.product(ones, twos):
            self.assertFalse(are_alike(one, two, size))

    def test_all_answers(self):
        kinds = {"word": 0, "rounds": 0, "apart": 0, NoLength: 0}
        for semigroup in list(semigroups_up_to(2)) + list(some_semigroups(50, 34)) + [(COUNT4, (0, 1))]:
            pairs = list(itertools.product(sets_of(semigroup[0]), repeat=2))
            for number, (first, second) in enumerate(pairs):
                most = number % 4
                found = told(ends_apart, semigroup, first, second, most)
                self.assertEqual(found, plain_ends(semigroup, first, second, most))
                kinds[found if found == NoLength else found[0]] += 1
        self.assertGreater(min(kinds.values()), 10)

    def test_without_a_word_and_rounds_some_size_tells_the_sets_apart(self):
        # Point [37].
        checked = 0
        for semigroup in list(semigroups_up_to(3, 2))[::3] + list(some_semigroups(80, 37)):
            many = len(semigroup[0])
            for first in sets_of(semigroup[0]):
                second = tuple(value for value in range(many) if value not in first)
                found = told(ends_apart, semigroup, first, second, 3)
                if found == NoLength:
                    self.assertTrue(any(ends_differ(semigroup, first, second, size) for size in range(4, 6)))
                checked += found == NoLength or found[0] == "apart"
        self.assertGreater(checked, 300)


class Faults(unittest.TestCase):
    def test_the_semigroup(self):
        check_faults(self, lambda semigroup: ends_apart(semigroup, (), (), 0))
        check_faults(self, lambda semigroup: ends_apart(semigroup, (0,), (5, 4), 3))

    def test_the_sets(self):
        check_no_sets(self, lambda semigroup, first, second: ends_apart(semigroup, first, second, 0))
        check_no_sets(self, lambda semigroup, first, second: ends_apart(semigroup, first, second, 3))


if __name__ == "__main__":
    unittest.main()
