"""Points [15] and [16]: products of sets, settled and turned sets, and the family."""

import itertools
import unittest

from partfilter.family import family_of, product_of, settled, settling, turned
from tables import (
    ADD2, ADD3, ADD4, BAND, COUNT3, COUNT4, CUT, LEFT, ONE, RIGHT, TABLES, TAIL, check_faults,
    semigroups_up_to, sets_of, some_semigroups,
)


def plain_product(table, one, two):
    found = set()
    for a in one:
        for b in two:
            found.add(table[a][b])
    return tuple(sorted(found))


def plain_repeated(table, one, times):
    found = one
    for _ in range(times - 1):
        found = plain_product(table, found, one)
    return found


def plain_settling(table, one):
    for k in itertools.count(1):
        base = plain_repeated(table, one, k)
        if plain_product(table, base, base) == base:
            return k


def plain_turned(table, one):
    base = plain_repeated(table, one, plain_settling(table, one))
    return tuple(v for v in range(len(table)) if v in base or v in plain_product(table, base, one))


def plain_family(semigroup):
    """The family, told anew from point [16]."""
    table, letters = semigroup
    made, sets = [], []

    def offer(how, values):
        if values not in sets:
            made.append(how)
            sets.append(values)

    for a in range(len(letters)):
        offer(("letter", a), (letters[a],))
    for k in itertools.count():
        if k == len(sets):
            return list(zip(made, sets))
        offer(("turn", k), plain_turned(table, sets[k]))
        for i in range(k + 1):
            offer(("both", k, i), plain_product(table, sets[k], sets[i]))
            offer(("both", i, k), plain_product(table, sets[i], sets[k]))


class Product(unittest.TestCase):
    def test_all_products_each_once_in_ascending_order(self):
        self.assertEqual(product_of(ADD4, (1,), (2,)), (3,))
        self.assertEqual(product_of(ADD4, (1, 3), (1, 3)), (0, 2))
        self.assertEqual(product_of(ADD4, (0, 3), (1, 2)), (0, 1, 2))
        self.assertEqual(product_of(ADD4, (0, 1, 2, 3), (2,)), (0, 1, 2, 3))

    def test_the_first_set_is_ahead(self):
        self.assertEqual(product_of(LEFT, (0,), (1,)), (0,))
        self.assertEqual(product_of(RIGHT, (0,), (1,)), (1,))
        self.assertEqual(product_of(BAND, (0,), (3,)), (1,))
        self.assertEqual(product_of(BAND, (3,), (0,)), (2,))
        self.assertEqual(product_of(BAND, (0, 3), (0,)), (0, 2))

    def test_empty_sets(self):
        for table in TABLES:
            self.assertEqual(product_of(table, (), ()), ())
            for one in sets_of(table):
                self.assertEqual(product_of(table, (), one), ())
                self.assertEqual(product_of(table, one, ()), ())

    def test_all_pairs_of_sets(self):
        for table in TABLES:
            for one in sets_of(table):
                for two in sets_of(table):
                    found = product_of(table, one, two)
                    self.assertEqual(found, plain_product(table, one, two))
                    self.assertIsInstance(found, tuple)


class Settling(unittest.TestCase):
    def test_1(self):
        self.assertEqual(settling(ONE, (0,)), 1)
        self.assertEqual(settling(ADD4, (0,)), 1)
        self.assertEqual(settling(ADD4, (0, 2)), 1)
        self.assertEqual(settling(LEFT, (0, 1)), 1)
        self.assertEqual(settling(COUNT4, (3,)), 1)

    def test_2(self):
        self.assertEqual(settling(ADD2, (1,)), 2)
        self.assertEqual(settling(ADD4, (2,)), 2)
        self.assertEqual(settling(TAIL, (0,)), 2)
        self.assertEqual(settling(COUNT4, (1,)), 2)

    def test_3(self):
        self.assertEqual(settling(ADD3, (1,)), 3)
        self.assertEqual(settling(ADD3, (2,)), 3)
        self.assertEqual(settling(ADD4, (0, 1)), 3)
        self.assertEqual(settling(COUNT3, (0,)), 3)

    def test_4(self):
        self.assertEqual(settling(ADD4, (1,)), 4)
        self.assertEqual(settling(ADD4, (3,)), 4)
        self.assertEqual(settling(COUNT4, (0,)), 4)
        self.assertEqual(settling(COUNT4, (0, 1)), 4)

    def test_it_is_the_least_number(self):
        for table in TABLES:
            for one in sets_of(table):
                if one:
                    self.assertEqual(settling(table, one), plain_settling(table, one))


class Settled(unittest.TestCase):
    def test_by_hand(self):
        self.assertEqual(settled(ADD4, (0, 2)), (0, 2))
        self.assertEqual(settled(ADD2, (1,)), (0,))
        self.assertEqual(settled(TAIL, (0,)), (1,))
        self.assertEqual(settled(ADD3, (1,)), (0,))
        self.assertEqual(settled(ADD4, (0, 1)), (0, 1, 2, 3))
        self.assertEqual(settled(ADD4, (1, 3)), (0, 2))
        self.assertEqual(settled(COUNT4, (0,)), (3,))

    def test_it_is_the_set_repeated_as_often_as_its_number_says(self):
        for table in TABLES:
            for one in sets_of(table):
                if one:
                    base = settled(table, one)
                    self.assertEqual(base, plain_repeated(table, one, settling(table, one)))
                    self.assertEqual(plain_product(table, base, base), base)
                    self.assertIsInstance(base, tuple)


class Turned(unittest.TestCase):
    def test_by_hand(self):
        self.assertEqual(turned(ADD2, (1,)), (0, 1))
        self.assertEqual(turned(ADD3, (1,)), (0, 1))
        self.assertEqual(turned(ADD3, (2,)), (0, 2))
        self.assertEqual(turned(ADD4, (1,)), (0, 1))
        self.assertEqual(turned(ADD4, (3,)), (0, 3))
        self.assertEqual(turned(ADD4, (1, 3)), (0, 1, 2, 3))
        self.assertEqual(turned(TAIL, (0,)), (1, 2))

    def test_a_settled_set_stays(self):
        self.assertEqual(turned(ADD4, (0, 2)), (0, 2))
        self.assertEqual(turned(LEFT, (0, 1)), (0, 1))
        self.assertEqual(turned(COUNT4, (0,)), (3,))

    def test_all_sets(self):
        for table in TABLES:
            for one in sets_of(table):
                if one:
                    found = turned(table, one)
                    self.assertEqual(found, plain_turned(table, one))
                    self.assertIsInstance(found, tuple)


class Family(unittest.TestCase):
    def test_one_value(self):
        for letters in ((0,), (0, 0), (0, 0, 0)):
            self.assertEqual(family_of((ONE, letters)), [(("letter", 0), (0,))])

    def test_letters_with_the_same_value_are_made_by_the_first_of_them(self):
        self.assertEqual(
            family_of((LEFT, (1, 1, 0))), [(("letter", 0), (1,)), (("letter", 2), (0,))])
        self.assertEqual(
            family_of((LEFT, (0, 1, 0))), [(("letter", 0), (0,)), (("letter", 1), (1,))])

    def test_letters_in_their_own_order(self):
        self.assertEqual(family_of((CUT, (2, 1, 0)))[:3], [
            (("letter", 0), (2,)), (("letter", 1), (1,)), (("letter", 2), (0,))])

    def test_the_turned_set_is_ahead_of_products(self):
        # The number of the turned set is 1, that of the product of the letter's set with itself is 2.
        self.assertEqual(family_of((ADD2, (1,))), [
            (("letter", 0), (1,)),
            (("turn", 0), (0, 1)),
            (("both", 0, 0), (0,)),
        ])

    def test_turn_where_a_product_makes_the_same_set(self):
        # The product of the set 0 with itself is (1,), too, and so is its turned set.
        nil = ((1, 1), (1, 1))
        self.assertEqual(
            family_of((nil, (0,))), [(("letter", 0), (0,)), (("turn", 0), (1,))])

    def test_both_k_i_ahead_of_both_i_k(self):
        # Both products of the letters are the same set.
        self.assertEqual(family_of((COUNT4, (0, 1))), [
            (("letter", 0), (0,)),
            (("letter", 1), (1,)),
            (("turn", 0), (3,)),
            (("both", 1, 0), (2,)),
        ])

    def test_both_ways_where_the_sets_are_different(self):
        self.assertEqual(family_of((BAND, (0, 3))), [
            (("letter", 0), (0,)),
            (("letter", 1), (3,)),
            (("both", 1, 0), (2,)),
            (("both", 0, 1), (1,)),
        ])

    def test_remainders_by_3(self):
        self.assertEqual(family_of((ADD3, (1,))), [
            (("letter", 0), (1,)),
            (("turn", 0), (0, 1)),
            (("both", 0, 0), (2,)),
            (("turn", 1), (0, 1, 2)),
            (("both", 1, 0), (1, 2)),
            (("turn", 2), (0, 2)),
            (("both", 2, 0), (0,)),
        ])

    def test_all_semigroups_of_up_to_3_values(self):
        for semigroup in semigroups_up_to(3):
            self.assertEqual(family_of(semigroup), plain_family(semigroup), semigroup)

    def test_semigroups_of_4_values(self):
        for semigroup in some_semigroups(400, 4):
            self.assertEqual(family_of(semigroup), plain_family(semigroup), semigroup)

    def test_no_set_twice_and_none_empty(self):
        for table in TABLES:
            for letters in itertools.product(range(len(table)), repeat=2):
                family = family_of((table, letters))
                sets = [values for _, values in family]
                self.assertEqual(len(set(sets)), len(sets))
                self.assertNotIn((), sets)

    def test_kinds_of_what_is_returned(self):
        for pair in family_of((ADD3, (1, 2))):
            self.assertIsInstance(pair, tuple)
            self.assertIsInstance(pair[0], tuple)
            self.assertIsInstance(pair[1], tuple)

    def test_the_list_is_new(self):
        semigroup = (ADD3, (1,))
        first = family_of(semigroup)
        kept = list(first)
        first.clear()
        self.assertEqual(family_of(semigroup), kept)


class Invalid(unittest.TestCase):
    def test_the_word_of_the_fault(self):
        check_faults(self, family_of)


if __name__ == "__main__":
    unittest.main()
