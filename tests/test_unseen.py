"""Points [27] to [30]: words of the values of a set of the family that are alike at a depth."""

import itertools
import unittest
from unittest import mock

from partfilter import unseen as unseen_module
from partfilter.alike import are_alike, far
from partfilter.errors import InvalidSemigroup, InvalidValue, WordsTooLong
from partfilter.family import family_of, settling
from partfilter.filters import depth_of, takes
from partfilter.semigroups import value_of
from partfilter.unseen import first_factors, made_word, turn_of, unseen, word_of
from samples import some_filters
from tables import (
    ADD2, ADD3, ADD4, BAND, COUNT4, LEFT, NO_SETS, ONE, TAIL, check_faults, check_no_sets,
    semigroups_up_to, sets_of, some_semigroups,
)


def plain_repeated(table, one, times):
    found = set(one)
    for _ in range(times - 1):
        found = {table[a][b] for a in found for b in one}
    return sorted(found)


def plain_word(table, family, number, value, depth):
    """The word of a value, told anew from point [27]."""
    kind, *of = family[number][0]
    if kind == "letter":
        return of
    if kind == "both":
        i, j = of
        for x, y in itertools.product(family[i][1], family[j][1]):
            if table[x][y] == value:
                return plain_word(table, family, i, x, depth) + plain_word(table, family, j, y, depth)
    i = of[0]
    one = family[i][1]
    n = 2 ** depth - 1
    while (n + 1) % settling(table, one) != 0:
        n += 1
    needed = n + 1 if value in plain_repeated(table, one, n + 1) else n + 2
    tail = []
    while needed > 1:
        needed -= 1
        for x, y in itertools.product(plain_repeated(table, one, needed), one):
            if table[x][y] == value:
                tail = plain_word(table, family, i, y, depth) + tail
                value = x
                break
    return plain_word(table, family, i, value, depth) + tail


class Letters(unittest.TestCase):
    def test_the_word_of_the_letter(self):
        for depth in range(4):
            self.assertEqual(word_of((ADD3, (2, 1)), 0, 2, depth), [0])
            self.assertEqual(word_of((ADD3, (2, 1)), 1, 1, depth), [1])

    def test_the_first_of_letters_with_the_same_value(self):
        # The set 1 is made by the letter 2.
        self.assertEqual(word_of((LEFT, (1, 1, 0)), 0, 1, 3), [0])
        self.assertEqual(word_of((LEFT, (1, 1, 0)), 1, 0, 3), [2])


class Both(unittest.TestCase):
    def test_of_two_letters(self):
        # The sets 2 and 3 are made by ("both", 1, 0) and ("both", 0, 1).
        for depth in range(4):
            self.assertEqual(word_of((BAND, (0, 3)), 2, 2, depth), [1, 0])
            self.assertEqual(word_of((BAND, (0, 3)), 3, 1, depth), [0, 1])

    def test_the_first_values_in_ascending_order(self):
        # The sets are (1,), (0, 1), (2,), (0, 1, 2) and (1, 2), the last one made by ("both", 1, 0).
        family = family_of((ADD3, (1,)))
        self.assertEqual(family[4], (("both", 1, 0), (1, 2)))
        self.assertEqual(word_of((ADD3, (1,)), 4, 1, 0), word_of((ADD3, (1,)), 1, 0, 0) + [0])
        self.assertEqual(word_of((ADD3, (1,)), 4, 2, 0), word_of((ADD3, (1,)), 1, 1, 0) + [0])

    def test_the_first_x_and_for_it_the_first_y(self):
        self.assertEqual(first_factors(ADD2, (0, 1), (0, 1), 0), (0, 0))
        self.assertEqual(first_factors(ADD2, (0, 1), (0, 1), 1), (0, 1))
        self.assertEqual(first_factors(ADD2, (1,), (0, 1), 1), (1, 0))
        self.assertEqual(first_factors(ADD2, (0, 1), (1,), 0), (1, 1))
        self.assertEqual(first_factors(ADD3, (1, 2), (0, 1, 2), 0), (1, 2))
        self.assertEqual(first_factors(LEFT, (0, 1), (0, 1), 1), (1, 0))


class Turn(unittest.TestCase):
    def test_remainders_by_2(self):
        # The settling number is 2, and far is 0, 1, 3 and 7.
        for depth, many in enumerate((2, 2, 4, 8)):
            self.assertEqual(word_of((ADD2, (1,)), 1, 0, depth), [0] * many)
            self.assertEqual(word_of((ADD2, (1,)), 1, 1, depth), [0] * (many + 1))

    def test_remainders_by_3(self):
        for depth, many in enumerate((3, 3, 6, 9)):
            self.assertEqual(word_of((ADD3, (1,)), 1, 0, depth), [0] * many)
            self.assertEqual(word_of((ADD3, (1,)), 1, 1, depth), [0] * (many + 1))

    def test_remainders_by_4(self):
        for depth, many in enumerate((4, 4, 4, 8)):
            self.assertEqual(word_of((ADD4, (1,)), 1, 0, depth), [0] * many)
            self.assertEqual(word_of((ADD4, (1,)), 1, 1, depth), [0] * (many + 1))

    def test_a_number_that_is_not_the_settling_number(self):
        # The set is settled at 4, and its turned set has one value alone.
        for depth, many in enumerate((4, 4, 4, 8)):
            self.assertEqual(word_of((COUNT4, (0,)), 1, 3, depth), [0] * many)

    def test_a_value_of_the_settled_set_and_one_behind_it(self):
        # The powers of 0 are 0, 1, 2, 1, 2 and so on, with 2 as the settling number.
        self.assertEqual(family_of((TAIL, (0,)))[1], (("turn", 0), (1, 2)))
        for depth, many in enumerate((2, 2, 4, 8)):
            self.assertEqual(word_of((TAIL, (0,)), 1, 1, depth), [0] * many)
            self.assertEqual(word_of((TAIL, (0,)), 1, 2, depth), [0] * (many + 1))

    def test_values_found_from_the_end(self):
        # The settling number of (0, 1) is 2. What is ahead is as small as can be.
        for value, twice in ((0, [0, 0]), (1, [0, 1]), (2, [1, 1])):
            self.assertEqual(turn_of(ADD3, (0, 1), 0, value), twice)
            self.assertEqual(turn_of(ADD3, (0, 1), 1, value), twice)
            self.assertEqual(turn_of(ADD3, (0, 1), 2, value), [0, 0] + twice)
        # The product is the left one, so all but the first value are the first one of the set.
        self.assertEqual(turn_of(LEFT, (0, 1), 2, 1), [1, 0, 0, 0])
        self.assertEqual(turn_of(LEFT, (1,), 2, 1), [1, 1, 1, 1])

    def test_a_turn_of_a_turn(self):
        # The set 3 is the turned set of (0, 1), with 2 as its settling number.
        semigroup = (ADD3, (1,))
        self.assertEqual(family_of(semigroup)[3], (("turn", 1), (0, 1, 2)))
        for depth, many in enumerate((2, 2, 4, 8)):
            zero, one = word_of(semigroup, 1, 0, depth), word_of(semigroup, 1, 1, depth)
            self.assertEqual(word_of(semigroup, 3, 0, depth), zero * many)
            self.assertEqual(word_of(semigroup, 3, 1, depth), zero * (many - 1) + one)
            self.assertEqual(word_of(semigroup, 3, 2, depth), zero * (many - 2) + one * 2)


class Words(unittest.TestCase):
    def each_word(self, semigroups, depths):
        for semigroup in semigroups:
            for number, (made, values) in enumerate(family_of(semigroup)):
                for depth in depths:
                    yield semigroup, number, made[0], values, depth

    def test_all_against_the_point_told_anew(self):
        kinds = []
        semigroups = list(semigroups_up_to(3, 1)) + list(semigroups_up_to(2)) + list(some_semigroups(150, 27))
        for semigroup, number, kind, values, depth in self.each_word(semigroups, range(4)):
            kinds.append((kind, depth))
            family = family_of(semigroup)
            for value in values:
                found = word_of(semigroup, number, value, depth)
                self.assertEqual(found, plain_word(semigroup[0], family, number, value, depth))
                self.assertEqual(value_of(semigroup, found), value)
        for kind in ("letter", "both", "turn"):
            for depth in range(4):
                self.assertGreater(kinds.count((kind, depth)), 10)

    def test_the_words_of_a_set_are_alike(self):
        compared = [0] * 4
        semigroups = list(semigroups_up_to(3, 2))[::3] + list(some_semigroups(60, 30))
        for semigroup, number, _, values, depth in self.each_word(semigroups, range(4)):
            words = [word_of(semigroup, number, value, depth) for value in values]
            if max(map(len, words)) <= 40:
                for word in words[1:]:
                    self.assertTrue(are_alike(words[0], word, depth), (semigroup, number, depth))
                    compared[depth] += 1
        self.assertGreater(min(compared), 40)

    def test_no_filter_of_the_depth_tells_them_apart(self):
        words = [word_of((ADD3, (1,)), 1, value, 2) for value in (0, 1)]
        checked = 0
        for lines in some_filters(2000, 8, 30):
            if depth_of(lines) <= 2:
                checked += 1
                self.assertEqual(takes(lines, words[0]), takes(lines, words[1]))
        self.assertGreater(checked, 500)

    def test_n_is_at_least_far_of_the_depth(self):
        for semigroup, number, kind, values, depth in self.each_word(some_semigroups(80, 14), range(4)):
            if kind == "turn":
                for value in values:
                    found = word_of(semigroup, number, value, depth)
                    self.assertGreaterEqual(len(found), far(depth) + 1)


class Unseen(unittest.TestCase):
    def test_one_set(self):
        self.assertEqual(unseen((ADD2, (1,)), [(1,)], 2), (0, [(1, [0])]))
        self.assertEqual(unseen((ADD2, (1,)), [(0,)], 2), (1, [(0, [0] * 4)]))

    def test_two_sets(self):
        self.assertEqual(unseen((ADD2, (1,)), [(0,), (1,)], 0), (1, [(0, [0] * 2), (1, [0] * 3)]))
        self.assertEqual(unseen((ADD2, (1,)), [(1,), (0,)], 3), (1, [(1, [0] * 9), (0, [0] * 8)]))

    def test_three_sets(self):
        number, found = unseen((ADD3, (1,)), [(2,), (0,), (1,)], 1)
        self.assertEqual(number, 3)
        self.assertEqual(found, [(value, word_of((ADD3, (1,)), 3, value, 1)) for value in (2, 0, 1)])

    def test_the_first_value_in_common(self):
        number, found = unseen((ADD3, (1,)), [(1, 2), (0, 2), (0, 1), (0, 1, 2)], 1)
        self.assertEqual(number, 1)
        self.assertEqual([value for value, _ in found], [1, 0, 0, 0])
        number, found = unseen((ADD3, (1,)), [(0,), (1,), (2,), (1, 2), (0, 2)], 0)
        self.assertEqual((number, [value for value, _ in found]), (3, [0, 1, 2, 1, 0]))

    def test_the_same_set_twice(self):
        number, found = unseen((ADD2, (1,)), [(0,), (0,), (1,), (0,)], 1)
        self.assertEqual((number, found), (1, [(0, [0, 0]), (0, [0, 0]), (1, [0, 0, 0]), (0, [0, 0])]))
        # They are lists of their own.
        found[0][1].append(1)
        self.assertEqual(found[1:], [(0, [0, 0]), (1, [0, 0, 0]), (0, [0, 0])])

    def test_none(self):
        self.assertIsNone(unseen((LEFT, (0, 1)), [(0,), (1,)], 0))
        self.assertIsNone(unseen((LEFT, (0,)), [(1,)], 3))

    def test_an_empty_set(self):
        for sets in ([()], [(), (0,)], [(0,), ()], [(0,), (), (1,)]):
            self.assertIsNone(unseen((ADD2, (1,)), sets, 1))

    def test_kinds(self):
        found = unseen((ONE, (0,)), [(0,)], 3)
        self.assertEqual(found, (0, [(0, [0])]))
        self.assertIsInstance(found, tuple)
        self.assertIsInstance(found[1], list)
        self.assertIsInstance(found[1][0], tuple)
        self.assertIsInstance(found[1][0][1], list)

    def test_words_are_new(self):
        word_of((ADD2, (1,)), 0, 1, 1).append(7)
        self.assertEqual(word_of((ADD2, (1,)), 0, 1, 1), [0])
        sets = [(0,), (1,)]
        unseen((ADD2, (1,)), sets, 1)
        self.assertEqual(sets, [(0,), (1,)])

    def test_all_pairs_of_sets(self):
        for semigroup in some_semigroups(12, 28):
            family = family_of(semigroup)
            for sets in itertools.product(sets_of(semigroup[0]), repeat=2):
                met = [number for number, (_, values) in enumerate(family)
                       if all(set(values) & set(one) for one in sets)]
                if not met:
                    self.assertIsNone(unseen(semigroup, list(sets), 2))
                    continue
                number, values = met[0], family[met[0]][1]
                firsts = [min(set(values) & set(one)) for one in sets]
                self.assertEqual(unseen(semigroup, list(sets), 2), (number, [
                    (value, plain_word(semigroup[0], family, number, value, 2)) for value in firsts]))


class TooLong(unittest.TestCase):
    """The words for the depths up to 3 are short; for greater depths they are not."""

    def test_at_most_300_letters(self):
        for depth, many in ((4, 16), (5, 32), (6, 64), (7, 128), (8, 256)):
            self.assertEqual(word_of((ADD2, (1,)), 1, 0, depth), [0] * many)
            self.assertEqual(word_of((ADD2, (1,)), 1, 1, depth), [0] * (many + 1))

    def test_more_than_300_letters(self):
        for value in (0, 1):
            with self.assertRaises(WordsTooLong):
                word_of((ADD2, (1,)), 1, value, 9)
            # It is refused before so many letters are put together.
            with self.assertRaises(WordsTooLong):
                word_of((ADD2, (1,)), 1, value, 40)

    def test_exactly_300_letters_and_301(self):
        # A family in which the set k has a word of 2 ** k letters up to 8, and then longer and longer ones.
        family = [(("letter", 0), (0,))] + [(("both", k, k), (0,)) for k in range(8)]
        family += [(("both", 8, 5), (0,)), (("both", 9, 3), (0,)), (("both", 10, 2), (0,)), (("both", 11, 0), (0,))]
        self.assertEqual(made_word(ONE, family, 0, 8, 0), [0] * 256)
        self.assertEqual(made_word(ONE, family, 0, 11, 0), [0] * 300)
        with self.assertRaises(WordsTooLong):
            made_word(ONE, family, 0, 12, 0)

    def test_unseen_is_refused_where_one_of_its_words_is(self):
        with self.assertRaises(WordsTooLong):
            unseen((ADD2, (1,)), [(0,), (1,)], 9)
        # For the depth 3 they have 8 and 9 letters.
        with mock.patch.object(unseen_module, "MOST_WORD", 8):
            with self.assertRaises(WordsTooLong):
                unseen((ADD2, (1,)), [(0,), (1,)], 3)
            with self.assertRaises(WordsTooLong):
                unseen((ADD2, (1,)), [(1,), (0,)], 3)
            self.assertEqual(unseen((ADD2, (1,)), [(0,), (0,)], 3), (1, [(0, [0] * 8)] * 2))


class Faults(unittest.TestCase):
    def test_the_semigroup(self):
        check_faults(self, lambda semigroup: word_of(semigroup, 0, 0, 1))
        check_faults(self, lambda semigroup: unseen(semigroup, [(0,)], 1))
        check_faults(self, lambda semigroup: unseen(semigroup, [(1, 0), (9,)], 1))

    def test_the_sets(self):
        check_no_sets(self, lambda semigroup, first, second: unseen(semigroup, [first, second], 2))

    def test_a_set_at_each_place_of_a_list(self):
        for wrong in NO_SETS:
            for at in range(3):
                sets = [(0, 1, 2)] * at + [wrong] + [()] * (2 - at)
                with self.assertRaises(InvalidValue):
                    unseen((ADD3, (1,)), sets, 9)
                with self.assertRaises(InvalidSemigroup):
                    unseen((ADD3, ()), sets, 9)


if __name__ == "__main__":
    unittest.main()
