"""Points [1] to [4]: semigroups, words, first words, sets of values."""

import copy
import itertools
import unittest

from partfilter.errors import InvalidSemigroup, InvalidValue
from partfilter.semigroups import (
    check_semigroup, check_sets, fault_of, first_words, has_common_word, value_of,
)
from tables import ADD2, ADD3, ADD4, BAND, LEFT, NOT_ASSOCIATIVE, ONE, RIGHT

ZERO2 = ((0, 0), (0, 0))
ZERO4 = ((0,) * 4,) * 4


def plain_fault(semigroup):
    """The fault, told anew from point [2], step by step."""
    table, letters = semigroup
    n = len(table)
    if n == 0 or n > 4:
        return "table"
    for row in table:
        if len(row) != n or any(x not in range(n) for x in row):
            return "table"
    if len(letters) not in (1, 2, 3) or any(x not in range(n) for x in letters):
        return "letters"
    for a, b, c in itertools.product(range(n), repeat=3):
        if table[table[a][b]][c] != table[a][table[b][c]]:
            return "associative"
    return None


def words_in_order(letters, most):
    for size in range(1, most + 1):
        for word in itertools.product(range(letters), repeat=size):
            yield list(word)


class Fault(unittest.TestCase):
    def test_one_to_four_values(self):
        for table in (ONE, ADD2, ADD3, ADD4, LEFT, RIGHT, BAND, ZERO2, ZERO4):
            with self.subTest(table=table):
                self.assertIsNone(fault_of((table, (0,))))

    def test_no_values_and_five(self):
        self.assertEqual(fault_of(((), (0,))), "table")
        five = tuple(tuple((a + b) % 5 for b in range(5)) for a in range(5))
        self.assertEqual(fault_of((five, (0,))), "table")
        self.assertEqual(fault_of((((0,) * 5,) * 5, (0,))), "table")

    def test_one_to_three_letters(self):
        for letters in ((0,), (1,), (0, 1), (1, 0), (1, 1), (0, 1, 1), (1, 1, 1)):
            with self.subTest(letters=letters):
                self.assertIsNone(fault_of((ADD2, letters)))

    def test_no_letters_and_four(self):
        self.assertEqual(fault_of((ADD2, ())), "letters")
        self.assertEqual(fault_of((ADD2, (0, 1, 0, 1))), "letters")
        self.assertEqual(fault_of((ADD4, (0, 1, 2, 3))), "letters")

    def test_a_row_of_another_size(self):
        for at in range(3):
            for row in ((), (0,), (0, 0), (0, 0, 0, 0)):
                table = tuple(row if k == at else (0, 0, 0) for k in range(3))
                with self.subTest(table=table):
                    self.assertEqual(fault_of((table, (0,))), "table")
        self.assertEqual(fault_of((((),), (0,))), "table")
        self.assertEqual(fault_of((((0, 0),), (0,))), "table")

    def test_a_member_that_is_no_value(self):
        for row, column in itertools.product(range(3), repeat=2):
            for wrong in (-1, -3, 3, 4, 100):
                table = [[0] * 3 for _ in range(3)]
                table[row][column] = wrong
                with self.subTest(table=table):
                    self.assertEqual(fault_of((tuple(map(tuple, table)), (0,))), "table")

    def test_a_letter_that_is_no_value(self):
        for at in range(3):
            for wrong in (-1, -2, 2, 3, 100):
                letters = tuple(wrong if k == at else 1 for k in range(3))
                with self.subTest(letters=letters):
                    self.assertEqual(fault_of((ADD2, letters)), "letters")

    def test_a_product_that_is_not_associative(self):
        self.assertEqual(fault_of((NOT_ASSOCIATIVE, (0,))), "associative")
        minus = tuple(tuple((a - b) % 3 for b in range(3)) for a in range(3))
        self.assertEqual(fault_of((minus, (0, 1, 2))), "associative")

    def test_values_without_words_count(self):
        # The word of the letter 2 stays 2: only the values 0 and 1 are at fault.
        table = ((1, 0, 2), (0, 0, 2), (2, 2, 2))
        self.assertEqual(fault_of((table, (2,))), "associative")

    def test_several_faults(self):
        self.assertEqual(fault_of(((), ())), "table")
        self.assertEqual(fault_of((((0, 2), (0, 0)), ())), "table")
        self.assertEqual(fault_of((((1, 0), (0,)), (2,))), "table")
        self.assertEqual(fault_of((((0, -1), (0, 0)), (-1,))), "table")
        # Not associative in the rows that are there, and a member that is no value.
        self.assertEqual(fault_of((((1, 0), (0, 2)), (0,))), "table")
        self.assertEqual(fault_of((NOT_ASSOCIATIVE, ())), "letters")
        self.assertEqual(fault_of((NOT_ASSOCIATIVE, (0, 0, 0, 0))), "letters")
        self.assertEqual(fault_of((NOT_ASSOCIATIVE, (0, 2))), "letters")
        self.assertEqual(fault_of((NOT_ASSOCIATIVE, (-1,))), "letters")

    def test_a_letter_and_a_value_of_one_value(self):
        self.assertIsNone(fault_of((ONE, (0, 0, 0))))
        self.assertEqual(fault_of((ONE, (1,))), "letters")
        self.assertEqual(fault_of((((1,),), (0,))), "table")

    def test_all_tables_of_two_values(self):
        for members in itertools.product(range(-1, 3), repeat=4):
            for letters in ((0,), (0, 1), (), (2,)):
                semigroup = ((members[:2], members[2:]), letters)
                with self.subTest(semigroup=semigroup):
                    self.assertEqual(fault_of(semigroup), plain_fault(semigroup))

    def test_how_many_tables_of_three_values_are_associative(self):
        count = 0
        for members in itertools.product(range(3), repeat=9):
            table = (members[:3], members[3:6], members[6:])
            fault = fault_of((table, (0,)))
            self.assertIn(fault, (None, "associative"))
            count += fault is None
        self.assertEqual(count, 113)

    def test_four_values_against_the_plain_definition(self):
        # Tables that differ from an associative one in one member.
        for base in (ADD4, BAND, ZERO4):
            for a, b, worth in itertools.product(range(4), repeat=3):
                rows = [list(row) for row in base]
                rows[a][b] = worth
                semigroup = (tuple(map(tuple, rows)), (3,))
                self.assertEqual(fault_of(semigroup), plain_fault(semigroup))


class Values(unittest.TestCase):
    def test_the_empty_word_has_no_value(self):
        self.assertIsNone(value_of((ADD2, (0, 1)), []))

    def test_a_letter_has_its_value(self):
        for letter, value in enumerate((2, 0, 1)):
            self.assertEqual(value_of((ADD3, (2, 0, 1)), [letter]), value)

    def test_the_value_zero_is_not_none(self):
        self.assertEqual(value_of((ONE, (0,)), [0]), 0)
        self.assertEqual(value_of((ADD2, (1,)), [0, 0]), 0)
        self.assertEqual(value_of((ADD2, (1,)), [0, 0, 0]), 1)
        # The first value 0 is not skipped: 0 times 0 is 1 here, and all else 1.
        table = ((1, 1), (1, 1))
        self.assertEqual(value_of((table, (0,)), [0]), 0)
        self.assertEqual(value_of((table, (0,)), [0, 0]), 1)

    def test_the_order_counts(self):
        self.assertEqual(value_of((LEFT, (0, 1)), [0, 1]), 0)
        self.assertEqual(value_of((LEFT, (0, 1)), [1, 0]), 1)
        self.assertEqual(value_of((RIGHT, (0, 1)), [0, 1]), 1)
        self.assertEqual(value_of((RIGHT, (0, 1)), [1, 0]), 0)
        self.assertEqual(value_of((BAND, (0, 3)), [0, 1]), 1)
        self.assertEqual(value_of((BAND, (0, 3)), [1, 0]), 2)

    def test_the_letters_stand_for_their_values(self):
        self.assertEqual(value_of((ADD4, (3, 1)), [0, 0, 1]), 3)

    def test_long_words(self):
        self.assertEqual(value_of((ADD4, (1,)), [0] * 1001), 1)

    def test_a_word_has_the_product_of_its_parts(self):
        semigroup = (BAND, (1, 2))
        words = list(words_in_order(2, 4))
        for one, two in itertools.product(words, repeat=2):
            product = BAND[value_of(semigroup, one)][value_of(semigroup, two)]
            self.assertEqual(value_of(semigroup, one + two), product)

    def test_the_word_stays_as_it_was(self):
        word = [1, 0, 1, 1]
        value_of((ADD2, (0, 1)), word)
        self.assertEqual(word, [1, 0, 1, 1])


class FirstWords(unittest.TestCase):
    def test_all_values_have_words(self):
        self.assertEqual(first_words((ADD3, (1,))), [(1, [0]), (2, [0, 0]), (0, [0, 0, 0])])

    def test_values_without_words(self):
        self.assertEqual(first_words((ADD4, (2,))), [(2, [0]), (0, [0, 0])])
        self.assertEqual(first_words((ZERO4, (3,))), [(3, [0]), (0, [0, 0])])
        self.assertEqual(first_words((ONE, (0, 0, 0))), [(0, [0])])

    def test_letters_of_the_same_value(self):
        self.assertEqual(first_words((ADD2, (1, 1, 0))), [(1, [0]), (0, [2])])
        self.assertEqual(first_words((ADD2, (1, 1, 1))), [(1, [0]), (0, [0, 0])])

    def test_several_words_of_the_same_number_of_letters(self):
        # 0 is the value of both [0, 1] and [1, 0]; 2 of both [0, 0] and [1, 1].
        self.assertEqual(first_words((ADD4, (1, 3))),
                         [(1, [0]), (3, [1]), (2, [0, 0]), (0, [0, 1])])
        self.assertEqual(first_words((ADD4, (3, 1))),
                         [(3, [0]), (1, [1]), (2, [0, 0]), (0, [0, 1])])

    def test_a_shorter_word_comes_ahead_of_one_with_smaller_letters(self):
        self.assertEqual(first_words((ADD4, (1, 0, 3))),
                         [(1, [0]), (0, [1]), (3, [2]), (2, [0, 0])])

    def test_the_order_of_the_letters_in_the_words(self):
        self.assertEqual(first_words((BAND, (0, 3))),
                         [(0, [0]), (3, [1]), (1, [0, 1]), (2, [1, 0])])
        self.assertEqual(first_words((BAND, (3, 0))),
                         [(3, [0]), (0, [1]), (2, [0, 1]), (1, [1, 0])])

    def test_against_all_words(self):
        tables = [t for t in small_tables() if fault_of((t, (0,))) is None]
        for table in tables + [ADD4, BAND, ZERO4]:
            n = len(table)
            for size in (1, 2, 3):
                for letters in itertools.product(range(n), repeat=size):
                    found = {}
                    for word in words_in_order(size, 4):
                        found.setdefault(value_of((table, letters), word), word)
                    self.assertEqual(first_words((table, letters)), list(found.items()))

    def test_the_kinds_of_what_is_returned(self):
        found = first_words((ADD2, (1,)))
        self.assertIsInstance(found, list)
        for pair in found:
            self.assertIsInstance(pair, tuple)
            self.assertIsInstance(pair[1], list)

    def test_the_lists_are_new(self):
        semigroup = (ADD3, (1, 2))
        found = first_words(semigroup)
        kept = copy.deepcopy(found)
        for _, word in found:
            word.append(7)
            self.assertEqual(sum(other.count(7) for _, other in found), 1)
            word.pop()
        found[0][1].append(9)
        found.clear()
        self.assertEqual(first_words(semigroup), kept)


def small_tables():
    for members in itertools.product(range(2), repeat=4):
        yield (members[:2], members[2:])


class CommonWords(unittest.TestCase):
    def test_common_values_with_words(self):
        semigroup = (ADD3, (1,))
        self.assertIs(has_common_word(semigroup, (0, 1), (1, 2)), True)
        self.assertIs(has_common_word(semigroup, (0,), (0,)), True)

    def test_no_common_value(self):
        self.assertIs(has_common_word((ADD3, (1,)), (0, 1), (2,)), False)

    def test_a_common_value_without_words(self):
        self.assertIs(has_common_word((ADD4, (2,)), (1, 3), (1, 3)), False)
        self.assertIs(has_common_word((ADD4, (2,)), (0, 1), (1, 2, 3)), False)
        self.assertIs(has_common_word((ADD4, (2,)), (0, 1), (0, 1)), True)

    def test_empty_sets(self):
        self.assertIs(has_common_word((ADD2, (1,)), (), ()), False)
        self.assertIs(has_common_word((ADD2, (1,)), (), (0, 1)), False)
        self.assertIs(has_common_word((ADD2, (1,)), (0, 1), ()), False)

    def test_all_sets_of_values(self):
        sets = [c for size in range(5) for c in itertools.combinations(range(4), size)]
        for letters, reached in (((2,), {0, 2}), ((1,), {0, 1, 2, 3}), ((0,), {0})):
            for one, two in itertools.product(sets, repeat=2):
                expected = bool(set(one) & set(two) & reached)
                self.assertIs(has_common_word((ADD4, letters), one, two), expected)


class Checks(unittest.TestCase):
    """What the later functions, which take a semigroup and sets of values, raise."""

    def told(self, semigroup, sets):
        with self.assertRaises(InvalidSemigroup) as caught:
            check_sets(semigroup, sets)
        return caught.exception.word

    def test_sets_of_values(self):
        for values in ((), (0,), (2,), (0, 1), (0, 2), (1, 2), (0, 1, 2)):
            self.assertIsNone(check_sets((ADD3, (0,)), [values]))
            self.assertIsNone(check_sets((ADD3, (0,)), [(), values]))
        self.assertIsNone(check_sets((ADD3, (0,)), []))

    def test_what_is_no_set_of_values(self):
        for values in ((3,), (-1,), (0, 3), (-1, 0), (1, 0), (0, 0), (0, 1, 1), (2, 1), (0, 2, 1),
                       (0, 1, 2, 3), (-2, -1)):
            for sets in ([values], [(0,), values], [values, (0,)], [(), (1,), values]):
                with self.subTest(sets=sets):
                    with self.assertRaises(InvalidValue):
                        check_sets((ADD3, (0,)), sets)

    def test_the_semigroup_comes_first(self):
        self.assertEqual(self.told(((), (0,)), [(1, 0)]), "table")
        self.assertEqual(self.told((ADD2, ()), [(5,)]), "letters")
        self.assertEqual(self.told((NOT_ASSOCIATIVE, (0,)), [(0, 0)]), "associative")
        self.assertEqual(self.told((NOT_ASSOCIATIVE, (0,)), []), "associative")

    def test_the_semigroup_alone(self):
        self.assertIsNone(check_semigroup((ADD2, (1,))))
        for semigroup, word in ((((), (0,)), "table"), ((ADD2, (2,)), "letters"),
                                ((NOT_ASSOCIATIVE, (0,)), "associative")):
            with self.assertRaises(InvalidSemigroup) as caught:
                check_semigroup(semigroup)
            self.assertEqual(caught.exception.word, word)


if __name__ == "__main__":
    unittest.main()
