"""Points [12] to [14]: words that are alike at a depth, and how far words are repeated."""

import itertools
import random
import unittest

from partfilter.alike import are_alike, far
from partfilter.errors import WordTooLong
from partfilter.filters import depth_of, takes
from samples import words_up_to

NONE = ("none",)
EMPTY = ("empty",)
A = ("letter", 0)
B = ("letter", 1)


def plain_alike(one, two, depth):
    """Whether two words are alike, told anew from point [12]."""
    return depth == 0 or covers(one, two, depth) and covers(two, one, depth)


def covers(one, two, depth):
    return all(
        any(
            one[p] == two[q]
            and plain_alike(one[:p], two[:q], depth - 1)
            and plain_alike(one[p + 1:], two[q + 1:], depth - 1)
            for q in range(len(two))
        )
        for p in range(len(one))
    )


def some_filter(chosen, depth):
    """Lines whose last one has this depth or a lesser one, always the same ones."""
    leaves = [NONE, EMPTY, A, B][:max(1, depth + 1 + (depth > 1))]
    lines = list(leaves)
    depths = [0, 1, 2, 2][:len(lines)]
    for _ in range(25):
        kind = chosen.choice(["or", "not", "behind", "behind"])
        parts = [chosen.randrange(len(lines)) for _ in range(1 if kind == "not" else 2)]
        new = max(depths[part] for part in parts) + (kind == "behind")
        if new <= depth:
            lines.append((kind, *parts))
            depths.append(new)
    lines.append(("not", len(lines) - 1))
    return tuple(lines)


def alike_pairs(depth):
    """Different words of two letters that are alike at a depth, each with another one of them."""
    words = list(words_up_to(2, 6))
    if depth < 3:
        # As many as are needed, but from all over the list.
        pairs = [(one, two) for one, two in itertools.combinations(words, 2)
                 if plain_alike(one, two, depth)]
        return random.Random(depth).sample(pairs, min(len(pairs), 150))
    parts = [[0], [1], [0, 1], [1, 0]]
    repeated = [(part * 7, part * 8) for part in parts]
    around = [(head + one + tail, head + two + tail)
              for (one, two) in repeated for head in ([], [1], [0, 1]) for tail in ([], [1])
              if len(head + two + tail) <= 20]
    return [(one, two) for one, two in around if plain_alike_at_3(one, two)]


def plain_alike_at_3(one, two):
    """Whether two longer words are alike at depth 3, with the answers for their parts kept."""
    known = {}

    def alike(left, right, depth):
        if depth == 0:
            return True
        if depth == 1:
            return set(left) == set(right)
        key = (left, right, depth)
        if key not in known:
            known[key] = half(left, right, depth) and half(right, left, depth)
        return known[key]

    def half(left, right, depth):
        return all(any(left[p] == right[q] and alike(left[:p], right[:q], depth - 1)
                       and alike(left[p + 1:], right[q + 1:], depth - 1)
                       for q in range(len(right)))
                   for p in range(len(left)))

    return alike(tuple(one), tuple(two), 3)


class DepthZero(unittest.TestCase):
    def test_any_two_words(self):
        for one in words_up_to(2, 3):
            for two in words_up_to(3, 3):
                self.assertIs(are_alike(one, two, 0), True)

    def test_the_empty_word(self):
        self.assertIs(are_alike([], [], 0), True)
        self.assertIs(are_alike([], [0], 0), True)
        self.assertIs(are_alike([2, 1, 0] * 13, [], 0), True)


class EmptyWord(unittest.TestCase):
    def test_it_is_alike_to_itself(self):
        for depth in (0, 1, 2, 3):
            self.assertIs(are_alike([], [], depth), True)

    def test_it_is_alike_to_no_other_word_from_depth_1_on(self):
        for depth in (1, 2, 3):
            for word in words_up_to(3, 3):
                if word:
                    self.assertIs(are_alike([], word, depth), False)
                    self.assertIs(are_alike(word, [], depth), False)


class Depths(unittest.TestCase):
    def test_depth_1_is_the_same_letters(self):
        for one in words_up_to(3, 3):
            for two in words_up_to(3, 3):
                self.assertEqual(are_alike(one, two, 1), set(one) == set(two), (one, two))

    def test_depth_2_by_hand(self):
        self.assertFalse(are_alike([0], [0, 0], 2))
        self.assertFalse(are_alike([0, 0], [0, 0, 0], 2))
        self.assertTrue(are_alike([0, 0, 0], [0, 0, 0, 0], 2))
        self.assertFalse(are_alike([0, 1], [1, 0], 2))
        self.assertFalse(are_alike([0, 1], [0, 1, 1], 2))
        self.assertTrue(are_alike([0, 1] * 3, [0, 1] * 4, 2))
        self.assertTrue(are_alike([0, 1, 2] * 3, [0, 1, 2] * 4, 2))

    def test_only_one_of_the_two_ways_round_is_not_enough(self):
        # Each place of the shorter word has one in the longer word, but not the other way round.
        self.assertFalse(are_alike([0], [0, 1], 1))
        self.assertFalse(are_alike([0, 1], [0], 1))

    def test_the_part_ahead_counts(self):
        # The 2 has the same behind it in both words, and another letter ahead of it.
        self.assertIs(are_alike([0, 1, 0, 2], [0, 0, 2, 1], 1), True)
        self.assertIs(are_alike([0, 2, 1, 0], [1, 2, 1, 0], 2), False)

    def test_the_part_behind_counts(self):
        self.assertIs(are_alike([0, 1, 2, 0], [0, 1, 2, 1], 2), False)

    def test_two_letters_as_the_document_says(self):
        words = list(words_up_to(2, 5))
        for one in words:
            for two in words:
                for depth in (1, 2):
                    self.assertEqual(
                        are_alike(one, two, depth), plain_alike(one, two, depth), (one, two, depth))

    def test_three_letters_as_the_document_says(self):
        words = list(words_up_to(3, 3))
        for one in words:
            for two in words:
                for depth in (1, 2, 3):
                    self.assertEqual(
                        are_alike(one, two, depth), plain_alike(one, two, depth), (one, two, depth))

    def test_longer_words_at_depth_3(self):
        chosen = random.Random(3)
        found = {True: 0, False: 0}
        for _ in range(60):
            part = [chosen.randrange(2) for _ in range(chosen.randint(1, 2))]
            many = chosen.randint(5, 8)
            one = part * many + part[:1]
            two = part * (many + 1) + part[:1]
            wanted = plain_alike_at_3(one, two)
            found[wanted] += 1
            self.assertIs(are_alike(one, two, 3), wanted, (one, two))
        self.assertGreater(found[True], 5)
        self.assertGreater(found[False], 5)

    def test_a_word_is_alike_to_itself(self):
        chosen = random.Random(12)
        for size in (0, 1, 5, 17, 40):
            word = [chosen.randrange(3) for _ in range(size)]
            for depth in (0, 1, 2, 3):
                self.assertIs(are_alike(word, list(word), depth), True)
                self.assertIs(are_alike(word, word, depth), True)

    def test_alike_at_a_depth_is_alike_at_lesser_ones(self):
        words = list(words_up_to(2, 5))
        for one, two in itertools.combinations(words, 2):
            told = [are_alike(one, two, depth) for depth in (0, 1, 2, 3)]
            self.assertEqual(told, sorted(told, reverse=True))

    def test_depths_beyond_3_raise_no_error(self):
        self.assertTrue(are_alike([0] * 15, [0] * 16, 4))
        self.assertFalse(are_alike([0] * 14, [0] * 15, 4))


class Exchanged(unittest.TestCase):
    def test_the_answer_is_the_same(self):
        words = list(words_up_to(2, 4)) + [[0] * 7, [0] * 8, [0, 1] * 7, [0, 1] * 8, [2, 1, 0]]
        for one, two in itertools.combinations(words, 2):
            for depth in (0, 1, 2, 3):
                self.assertIs(are_alike(one, two, depth), are_alike(two, one, depth))


class Lengths(unittest.TestCase):
    def test_40_letters_are_decided(self):
        self.assertIs(are_alike([0] * 40, [0] * 39, 3), True)
        self.assertIs(are_alike([0] * 39, [0] * 40, 3), True)
        self.assertIs(are_alike([0] * 40, [0] * 40, 3), True)
        self.assertIs(are_alike([0, 1] * 20, [0, 1] * 19, 3), True)
        self.assertIs(are_alike([0, 1] * 20, [1, 0] * 20, 3), False)
        self.assertIs(are_alike([0, 1] * 20, [1, 0] * 20, 1), True)
        self.assertIs(are_alike([0] * 39 + [1], [0] * 40, 1), False)
        self.assertIs(are_alike([0] * 40, [], 0), True)
        self.assertIs(are_alike([0] * 40, [], 1), False)
        self.assertIs(are_alike([0, 1, 2] * 12 + [0, 1, 2, 0], [0, 1, 2] * 11 + [0], 3), True)

    def test_41_letters_are_too_long(self):
        for depth in (0, 1, 2, 3):
            for many in (41, 42, 100):
                for other in ([], [0], [0] * 40, [0] * 41):
                    with self.subTest(depth=depth, many=many):
                        with self.assertRaises(WordTooLong):
                            are_alike([0] * many, other, depth)
                        with self.assertRaises(WordTooLong):
                            are_alike(other, [0] * many, depth)


class Unmodified(unittest.TestCase):
    def test_the_words_stay_as_they_were(self):
        for depth in (0, 1, 2, 3):
            one, two = [0, 1, 2, 0], [2, 1, 0]
            are_alike(one, two, depth)
            are_alike(one, one, depth)
            self.assertEqual((one, two), ([0, 1, 2, 0], [2, 1, 0]))


class Filters(unittest.TestCase):
    def test_a_filter_takes_both_or_none_of_two_words_that_are_alike_at_its_depth(self):
        chosen = random.Random(13)
        for depth in (0, 1, 2, 3):
            pairs = alike_pairs(depth)
            self.assertGreater(len(pairs), 10)
            for one, two in pairs:
                self.assertTrue(are_alike(one, two, depth), (one, two))
            met = set()
            for _ in range(40):
                lines = some_filter(chosen, depth)
                self.assertLessEqual(depth_of(lines), depth)
                met.add(depth_of(lines))
                for one, two in pairs:
                    self.assertEqual(takes(lines, one), takes(lines, two), (lines, one, two))
            self.assertIn(depth, met)

    def test_words_that_some_filter_of_the_depth_tells_apart_are_not_alike(self):
        everything = (NONE, ("not", 0))
        told = [
            (1, (EMPTY,), [], [0]),
            (2, (A,), [0], [0, 0]),
            (2, (EMPTY, ("not", 0), ("behind", 1, 1)), [0], [0, 0]),
            (3, (*everything, A, ("behind", 1, 2)), [1, 0], [0, 1]),
            (3, (A, ("behind", 0, 0)), [0, 0], [0, 0, 0]),
            (3, (*everything, A, ("behind", 2, 1)), [0, 1, 0, 1], [1, 0, 1, 0]),
        ]
        for depth, lines, one, two in told:
            self.assertEqual(depth_of(lines), depth)
            self.assertNotEqual(takes(lines, one), takes(lines, two))
            for at_least in range(depth, 4):
                self.assertIs(are_alike(one, two, at_least), False)


class Far(unittest.TestCase):
    def test_0_to_3(self):
        self.assertEqual([far(depth) for depth in range(4)], [0, 1, 3, 7])

    def test_up_to_40(self):
        for depth in range(40):
            self.assertEqual(far(depth + 1), 2 * far(depth) + 1)
        self.assertEqual(far(10), 1023)
        self.assertEqual(far(40), 1099511627775)

    def test_a_word_repeated_far_times_and_once_more_is_alike(self):
        for depth in (0, 1, 2, 3):
            for word in words_up_to(3, 3):
                for many in (far(depth), far(depth) + 1, far(depth) + 2):
                    if len(word) * (many + 1) <= 40:
                        one, two = word * many, word * (many + 1)
                        self.assertIs(are_alike(one, two, depth), True, (one, two, depth))
                        self.assertIs(are_alike(two, one, depth), True, (one, two, depth))

    def test_a_word_of_five_letters_repeated_seven_times_and_once_more(self):
        word = [0, 1, 1, 0, 2]
        self.assertIs(are_alike(word * 7, word * 8, 3), True)

    def test_one_letter_repeated_one_time_fewer_and_far_times_is_not_alike(self):
        for depth in (1, 2, 3):
            for letter in (0, 1, 2):
                fewer, enough = [letter] * (far(depth) - 1), [letter] * far(depth)
                self.assertIs(are_alike(fewer, enough, depth), False)
                self.assertIs(are_alike(enough, fewer, depth), False)


if __name__ == "__main__":
    unittest.main()
