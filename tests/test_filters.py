"""Points [7] to [11]: filters, which words they take, their depth, and trimmed filters."""

import itertools
import unittest

from partfilter.errors import InvalidFilter, WordTooLong
from partfilter.filters import depth_of, filter_fault, takes, trimmed
from samples import some_filters, words_up_to

NONE = ("none",)
EMPTY = ("empty",)
A = ("letter", 0)
B = ("letter", 1)
C = ("letter", 2)
# All words: what is not none.
ALL = (NONE, ("not", 0))


def plain_takes(lines, number, word):
    """Whether a line takes a word, told anew from point [7]."""
    kind, *parts = lines[number]
    if kind == "none":
        return False
    if kind == "empty":
        return word == []
    if kind == "letter":
        return word == parts
    if kind == "or":
        return plain_takes(lines, parts[0], word) or plain_takes(lines, parts[1], word)
    if kind == "not":
        return not plain_takes(lines, parts[0], word)
    return any(plain_takes(lines, parts[0], word[:k]) and plain_takes(lines, parts[1], word[k:])
               for k in range(len(word) + 1))


def plain_depth(lines, number):
    kind, *parts = lines[number]
    if kind in ("none", "empty", "letter"):
        return ("none", "empty", "letter").index(kind)
    depths = [plain_depth(lines, part) for part in parts]
    return max(depths) + (kind == "behind")


def plain_put(lines, number, put):
    """Put down a line part by part, as point [11] says it, and return its number."""
    kind, *parts = lines[number]
    if kind in ("or", "not", "behind"):
        parts = [plain_put(lines, part, put) for part in parts]
    line = (kind, *parts)
    if line not in put:
        put.append(line)
    return put.index(line)


def without_unused(lines):
    used = {len(lines) - 1}
    for number in reversed(range(len(lines))):
        if number in used and lines[number][0] in ("or", "not", "behind"):
            used.update(lines[number][1:])
    return len(used) == len(lines)


class Fault(unittest.TestCase):
    def test_each_kind_of_line(self):
        for line in (NONE, EMPTY, A, B, C):
            self.assertIsNone(filter_fault((line,)))
        for line in (("or", 0, 1), ("or", 1, 0), ("or", 1, 1), ("not", 0), ("not", 1),
                     ("behind", 0, 1), ("behind", 1, 0), ("behind", 0, 0)):
            self.assertIsNone(filter_fault((NONE, A, line)))

    def test_no_lines(self):
        self.assertEqual(filter_fault(()), 0)

    def test_300_lines_and_more(self):
        self.assertIsNone(filter_fault((NONE,) * 299))
        self.assertIsNone(filter_fault((NONE,) * 300))
        self.assertEqual(filter_fault((NONE,) * 301), 300)
        self.assertEqual(filter_fault((NONE,) * 302), 300)
        self.assertEqual(filter_fault((NONE,) * 1000), 300)
        chain = (A,) + tuple(("not", number) for number in range(400))
        self.assertIsNone(filter_fault(chain[:300]))
        self.assertEqual(filter_fault(chain), 300)

    def test_a_wrong_line_at_any_place(self):
        for many in (1, 2, 10, 299, 300):
            for at in sorted({0, 1, 5, 150, 298, 299, many - 1}):
                if at < many:
                    lines = (NONE,) * at + (("nothing",),) + (NONE,) * (many - at - 1)
                    self.assertEqual(filter_fault(lines), at)

    def test_a_wrong_line_among_more_than_300(self):
        for many in (301, 302, 400):
            for at in (0, 1, 298, 299):
                lines = (NONE,) * at + (("nothing",),) + (NONE,) * (many - at - 1)
                self.assertEqual(filter_fault(lines), at)
            for at in (300, many - 1):
                lines = (NONE,) * at + (("nothing",),) + (NONE,) * (many - at - 1)
                self.assertEqual(filter_fault(lines), 300)

    def test_the_first_of_several_wrong_lines(self):
        self.assertEqual(filter_fault((A, ("nothing",), ("letter", 3))), 1)
        self.assertEqual(filter_fault((A, ("letter", 3), ("nothing",))), 1)
        self.assertEqual(filter_fault((("nothing",),) * 400), 0)

    def test_lines_that_are_not_above(self):
        for number in (0, 1, 2, 7):
            above = (A,) * number
            for wrong in (number, number + 1, number + 10, -1, -2, -number - 1):
                behind = (A,) * 20
                for line in (("not", wrong), ("or", wrong, 0), ("or", 0, wrong),
                             ("behind", wrong, 0), ("behind", 0, wrong), ("or", wrong, wrong),
                             ("behind", wrong, wrong)):
                    with self.subTest(number=number, line=line):
                        self.assertEqual(filter_fault(above + (line,)), number)
                        self.assertEqual(filter_fault(above + (line,) + behind), number)

    def test_the_line_above_may_be_named(self):
        for number in (1, 2, 7, 299):
            above = (A,) * number
            for line in (("not", number - 1), ("or", number - 1, 0), ("or", 0, number - 1),
                         ("behind", number - 1, 0), ("behind", 0, number - 1)):
                self.assertIsNone(filter_fault(above + (line,)))

    def test_letters(self):
        for letter in (-1, -2, -3, 3, 4, 100):
            self.assertEqual(filter_fault((("letter", letter),)), 0)
            self.assertEqual(filter_fault((A, B, C, A, B, ("letter", letter))), 5)

    def test_a_letter_does_not_count_as_a_line(self):
        self.assertIsNone(filter_fault((C, B, A)))

    def test_other_strings(self):
        for kind in ("", "nothing", "NONE", "None", "none ", " none", "and", "letters", "star",
                     "ors", "0"):
            for numbers in ((), (0,), (0, 0), (0, 0, 0)):
                with self.subTest(kind=kind, numbers=numbers):
                    self.assertEqual(filter_fault((A, (kind,) + numbers)), 1)

    def test_too_few_and_too_many_numbers(self):
        many = {"none": 0, "empty": 0, "letter": 1, "not": 1, "or": 2, "behind": 2}
        for kind, size in many.items():
            for count in range(5):
                with self.subTest(kind=kind, count=count):
                    fault = filter_fault((A, B, (kind,) + (0,) * count))
                    self.assertEqual(fault, None if count == size else 2)

    def test_all_that_take_a_filter_raise_it(self):
        faults = [((), 0), ((("nothing",),), 0), ((A, ("not", 1)), 1), ((A, B, ("letter", 3)), 2),
                  ((A, ("or", 0), NONE), 1), ((NONE,) * 301, 300),
                  ((NONE,) * 299 + (("not", 299), NONE), 299)]
        calls = [lambda lines: takes(lines, []), lambda lines: takes(lines, [0, 1]),
                 depth_of, trimmed]
        for lines, number in faults:
            for call in calls:
                with self.assertRaises(InvalidFilter) as caught:
                    call(lines)
                self.assertEqual(caught.exception.number, number)


class Takes(unittest.TestCase):
    def taken(self, lines, letters=3, most=3):
        found = []
        for word in words_up_to(letters, most):
            told = takes(lines, word)
            self.assertIsInstance(told, bool)
            if told:
                found.append(word)
        return found

    def test_none_and_empty(self):
        self.assertEqual(self.taken((NONE,)), [])
        self.assertEqual(self.taken((EMPTY,)), [[]])

    def test_letter(self):
        for letter in (0, 1, 2):
            self.assertEqual(self.taken((("letter", letter),)), [[letter]])

    def test_or(self):
        self.assertEqual(self.taken((A, B, ("or", 0, 1))), [[0], [1]])
        self.assertEqual(self.taken((A, B, ("or", 1, 0))), [[0], [1]])
        self.assertEqual(self.taken((A, NONE, ("or", 0, 1))), [[0]])
        self.assertEqual(self.taken((A, NONE, ("or", 1, 0))), [[0]])
        self.assertEqual(self.taken((A, ("or", 0, 0))), [[0]])

    def test_not(self):
        self.assertEqual(self.taken(ALL), list(words_up_to(3, 3)))
        words = list(words_up_to(3, 3))
        self.assertEqual(self.taken((EMPTY, ("not", 0))), words[1:])
        self.assertEqual(self.taken((C, ("not", 0))), [w for w in words if w != [2]])
        self.assertEqual(self.taken((C, ("not", 0), ("not", 1))), [[2]])

    def test_behind(self):
        self.assertEqual(self.taken((A, B, ("behind", 0, 1))), [[0, 1]])
        self.assertEqual(self.taken((A, B, ("behind", 1, 0))), [[1, 0]])
        self.assertEqual(self.taken((A, ("behind", 0, 0))), [[0, 0]])
        self.assertEqual(self.taken((A, ("behind", 0, 0), ("behind", 1, 0))), [[0, 0, 0]])

    def test_behind_with_the_empty_word_on_either_side(self):
        self.assertEqual(self.taken((EMPTY, ("behind", 0, 0))), [[]])
        self.assertEqual(self.taken((EMPTY, A, ("behind", 0, 1))), [[0]])
        self.assertEqual(self.taken((EMPTY, A, ("behind", 1, 0))), [[0]])
        self.assertEqual(self.taken((EMPTY, NONE, ("behind", 0, 1))), [])
        self.assertEqual(self.taken((EMPTY, NONE, ("behind", 1, 0))), [])
        both = (EMPTY, A, ("or", 0, 1), B, ("or", 0, 3), ("behind", 2, 4))
        self.assertEqual(self.taken(both), [[], [0], [1], [0, 1]])
        self.assertEqual(self.taken(ALL + (("behind", 1, 1),)), list(words_up_to(3, 3)))

    def test_behind_with_several_ways_to_part_a_word(self):
        # Words with a 0 somewhere, and words with two of them.
        lines = ALL + (A, ("behind", 1, 2), ("behind", 3, 1), ("behind", 4, 4))
        words = list(words_up_to(3, 4))
        self.assertEqual(self.taken(lines[:5], 3, 4), [w for w in words if 0 in w])
        self.assertEqual(self.taken(lines, 3, 4), [w for w in words if w.count(0) > 1])

    def test_the_last_line_alone_decides(self):
        self.assertEqual(self.taken((A, B, ("or", 0, 1), C)), [[2]])
        self.assertEqual(self.taken((A, B, ("or", 0, 1), ("not", 0), B)), [[1]])

    def test_against_the_plain_definition(self):
        for lines in some_filters(400, 9, 11):
            for word in words_up_to(3, 3):
                self.assertEqual(takes(lines, word), plain_takes(lines, len(lines) - 1, word))
        for lines in some_filters(100, 7, 11):
            for word in words_up_to(2, 6):
                self.assertEqual(takes(lines, word), plain_takes(lines, len(lines) - 1, word))

    def test_words_of_20_and_of_21_letters(self):
        starts = ALL + (A, ("behind", 2, 1))
        self.assertIs(takes(starts, [0] + [1] * 19), True)
        self.assertIs(takes(starts, [1] + [0] * 19), False)
        ends = ALL + (A, ("behind", 1, 2))
        self.assertIs(takes(ends, [1] * 19 + [0]), True)
        self.assertIs(takes(ends, [0] * 19 + [1]), False)
        for lines in (starts, ends, ALL, (NONE,)):
            for size in (21, 22, 100):
                with self.assertRaises(WordTooLong):
                    takes(lines, [0] * size)

    def test_the_filter_comes_before_the_word(self):
        for lines, number in (((), 0), ((A, ("not", 1)), 1), ((NONE,) * 301, 300)):
            with self.assertRaises(InvalidFilter) as caught:
                takes(lines, [0] * 21)
            self.assertEqual(caught.exception.number, number)

    def test_exact_lengths(self):
        # Words of exactly 1, 2, 4, 8 and 16 letters.
        lines = (A, B, ("or", 0, 1))
        for size in (1, 2, 4, 8, 16):
            for many in range(21):
                word = [k % 2 for k in range(many)]
                self.assertIs(takes(lines, word), many == size)
            lines += (("behind", len(lines) - 1, len(lines) - 1),)

    def test_300_lines(self):
        lines = ALL + tuple(("behind", number, number) for number in range(1, 299))
        self.assertEqual(len(lines), 300)
        self.assertIs(takes(lines, [2, 1, 0, 0, 1] * 4), True)
        lines = (A,) + tuple(("not", number) for number in range(299))
        self.assertIs(takes(lines, [0]), False)
        self.assertIs(takes(lines, [1]), True)

    def test_the_word_stays_as_it_was(self):
        word = [0, 1, 2, 0]
        takes(ALL + (A, ("behind", 1, 2)), word)
        self.assertEqual(word, [0, 1, 2, 0])


class Depth(unittest.TestCase):
    def test_lines_without_parts(self):
        self.assertEqual(depth_of((NONE,)), 0)
        self.assertEqual(depth_of((EMPTY,)), 1)
        for letter in (A, B, C):
            self.assertEqual(depth_of((letter,)), 2)

    def test_not(self):
        for line, depth in ((NONE, 0), (EMPTY, 1), (A, 2)):
            self.assertEqual(depth_of((line, ("not", 0))), depth)
            self.assertEqual(depth_of((line, ("not", 0), ("not", 1))), depth)

    def test_or_and_behind(self):
        lines = (NONE, EMPTY, B)
        for one, two in itertools.product(range(3), repeat=2):
            self.assertEqual(depth_of(lines + (("or", one, two),)), max(one, two))
            self.assertEqual(depth_of(lines + (("behind", one, two),)), max(one, two) + 1)

    def test_lines_in_each_other(self):
        lines = (NONE, ("behind", 0, 0), ("behind", 1, 0), ("behind", 0, 2), ("or", 3, 2),
                 ("not", 4), ("behind", 5, 5))
        for number, depth in enumerate((0, 1, 2, 3, 3, 3, 4)):
            self.assertEqual(depth_of(lines[:number + 1]), depth)

    def test_the_last_line_alone_counts(self):
        self.assertEqual(depth_of((A, ("behind", 0, 0), NONE)), 0)
        self.assertEqual(depth_of((A, ("behind", 0, 0), EMPTY, ("not", 2))), 1)

    def test_deep_filters(self):
        lines = (NONE,) + tuple(("behind", number, number) for number in range(299))
        self.assertEqual(depth_of(lines), 299)

    def test_against_the_plain_definition(self):
        for lines in some_filters(300, 12, 11):
            self.assertEqual(depth_of(lines), plain_depth(lines, len(lines) - 1))


class Trimmed(unittest.TestCase):
    def test_filters_that_are_trimmed_already(self):
        for lines in ((NONE,), (EMPTY,), (B,), ALL, (A, B, ("or", 0, 1)),
                      (A, ("behind", 0, 0), ("not", 1), ("or", 2, 0))):
            self.assertEqual(trimmed(lines), lines)

    def test_lines_that_are_not_used(self):
        self.assertEqual(trimmed((A, B)), (B,))
        self.assertEqual(trimmed((A, B, ("not", 0))), (A, ("not", 0)))
        self.assertEqual(trimmed((A, B, C, ("or", 0, 2))), (A, C, ("or", 0, 1)))
        self.assertEqual(trimmed((NONE, EMPTY, ("behind", 0, 1), C)), (C,))

    def test_lines_that_are_there_twice(self):
        self.assertEqual(trimmed((A, A, ("or", 0, 1))), (A, ("or", 0, 0)))
        self.assertEqual(trimmed((A, A, ("or", 1, 0))), (A, ("or", 0, 0)))
        self.assertEqual(trimmed((A, A, ("not", 0), ("not", 1), ("behind", 2, 3))),
                         (A, ("not", 0), ("behind", 1, 1)))
        self.assertEqual(trimmed((EMPTY, NONE, EMPTY, ("or", 0, 1), ("or", 2, 1), ("or", 3, 4))),
                         (EMPTY, NONE, ("or", 0, 1), ("or", 2, 2)))

    def test_lines_that_are_the_same_with_other_parts(self):
        # The same words, but not the same tuple.
        lines = (A, B, ("or", 0, 1), ("or", 1, 0), ("or", 2, 3))
        self.assertEqual(trimmed(lines), lines)

    def test_both_parts_are_the_same_line(self):
        self.assertEqual(trimmed((B, A, ("behind", 1, 1))), (A, ("behind", 0, 0)))
        self.assertEqual(trimmed((B, A, ("or", 1, 1), ("or", 2, 2))),
                         (A, ("or", 0, 0), ("or", 1, 1)))

    def test_the_order_is_part_by_part(self):
        self.assertEqual(trimmed((A, B, ("or", 1, 0))), (B, A, ("or", 0, 1)))
        self.assertEqual(trimmed((A, B, C, ("behind", 2, 0), ("not", 1), ("or", 4, 3))),
                         (B, ("not", 0), C, A, ("behind", 2, 3), ("or", 1, 4)))
        self.assertEqual(trimmed((A, B, C, ("behind", 2, 0), ("not", 1), ("or", 3, 4))),
                         (C, A, ("behind", 0, 1), B, ("not", 3), ("or", 2, 4)))
        # A part of the second part that the first part has put down keeps its number.
        self.assertEqual(trimmed((A, B, ("or", 1, 0), ("behind", 0, 1), ("or", 2, 3))),
                         (B, A, ("or", 0, 1), ("behind", 1, 0), ("or", 2, 3)))

    def test_letters_keep_their_letters(self):
        self.assertEqual(trimmed((NONE, EMPTY, C, B, ("behind", 3, 2))), (B, C, ("behind", 0, 1)))

    def test_300_lines(self):
        lines = (A,) + tuple(("behind", number, number) for number in range(299))
        self.assertEqual(trimmed(lines), lines)
        lines = (B, A) + tuple(("not", number) for number in range(1, 299))
        self.assertEqual(trimmed(lines), (A,) + tuple(("not", number) for number in range(298)))

    def test_against_the_plain_definition(self):
        for lines in some_filters(400, 12, 11):
            put = []
            plain_put(lines, len(lines) - 1, put)
            self.assertEqual(trimmed(lines), tuple(put))

    def test_what_it_returns(self):
        for lines in some_filters(150, 10, 11):
            short = trimmed(lines)
            self.assertIsInstance(short, tuple)
            self.assertIsNone(filter_fault(short))
            self.assertEqual(len(set(short)), len(short))
            self.assertTrue(without_unused(short))
            self.assertEqual(trimmed(short), short)
            self.assertEqual(depth_of(short), depth_of(lines))
            for word in words_up_to(3, 2):
                self.assertEqual(takes(short, word), takes(lines, word))


if __name__ == "__main__":
    unittest.main()
