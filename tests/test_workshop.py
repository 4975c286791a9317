"""Points [39] and [40]: workshops, their changes, and what they tell of the current semigroup."""

import random
import unittest

from partfilter.errors import (
    FilterError, InvalidLetter, InvalidValue, TooManyChanges, TooManyLines,
)
from partfilter.family import family_of
from partfilter.separating import separate
from partfilter.workshop import Workshop
from samples import told
from tables import (
    ADD2, ADD3, ADD4, BAND, COUNT4, LEFT, NILPOTENT, ONE, RIGHT, check_faults, check_no_sets, sets_of,
)



def state_of(shop):
    return shop.semigroup(), shop.changes(), shop.undone(), shop.kept()


def full_shop():
    """A workshop with 100 changes."""
    shop = Workshop((ADD3, (0, 0)))
    for number in range(100):
        shop.set_letter(number % 2, number % 3)
    return shop


class Changes(unittest.TestCase):
    def test_a_new_workshop(self):
        shop = Workshop((ADD3, (2, 1)))
        self.assertEqual(state_of(shop), ((ADD3, (2, 1)), 0, 0, None))

    def test_setting_letters(self):
        shop = Workshop((ADD3, (2, 1, 0)))
        self.assertIsNone(shop.set_letter(0, 1))
        self.assertEqual(shop.semigroup(), (ADD3, (1, 1, 0)))
        self.assertIsNone(shop.set_letter(2, 2))
        self.assertEqual(shop.semigroup(), (ADD3, (1, 1, 2)))
        self.assertIsNone(shop.set_letter(1, 0))
        self.assertEqual(shop.semigroup(), (ADD3, (1, 0, 2)))
        self.assertEqual((shop.changes(), shop.undone()), (3, 0))

    def test_the_value_that_a_letter_has(self):
        shop = Workshop((ADD3, (2, 1)))
        shop.set_letter(1, 1)
        self.assertEqual((shop.semigroup(), shop.changes()), ((ADD3, (2, 1)), 1))
        self.assertEqual(shop.kept(), (7, 7, 7))
        self.assertIs(shop.undo(), True)
        shop.set_letter(1, 0)
        shop.undo()
        shop.set_letter(0, 2)
        # It is a change, so nothing can be made again.
        self.assertEqual((shop.semigroup(), shop.changes(), shop.undone()), ((ADD3, (2, 1)), 1, 0))
        self.assertIs(shop.redo(), False)

    def test_undo_and_redo(self):
        shop = Workshop((ADD3, (0, 0)))
        shop.set_letter(0, 1)
        shop.set_letter(1, 2)
        shop.set_letter(0, 2)
        seen = []
        for step in (shop.undo, shop.undo, shop.redo, shop.undo, shop.undo, shop.redo, shop.redo, shop.redo):
            self.assertIs(step(), True)
            seen.append((shop.semigroup()[1], shop.changes(), shop.undone()))
        self.assertEqual(seen, [
            ((1, 2), 2, 1), ((1, 0), 1, 2), ((1, 2), 2, 1), ((1, 0), 1, 2), ((0, 0), 0, 3), ((1, 0), 1, 2),
            ((1, 2), 2, 1), ((2, 2), 3, 0)])

    def test_nothing_to_take_back_and_nothing_to_make_again(self):
        shop = Workshop((ADD3, (0, 1)))
        self.assertIs(shop.undo(), False)
        self.assertIs(shop.redo(), False)
        self.assertEqual(state_of(shop), ((ADD3, (0, 1)), 0, 0, None))
        shop.set_letter(0, 2)
        self.assertIs(shop.redo(), False)
        self.assertEqual((shop.semigroup(), shop.changes(), shop.undone()), ((ADD3, (2, 1)), 1, 0))
        self.assertIs(shop.undo(), True)
        self.assertIs(shop.undo(), False)
        self.assertEqual((shop.semigroup(), shop.changes(), shop.undone()), ((ADD3, (0, 1)), 0, 1))
        self.assertIs(shop.redo(), True)
        self.assertIs(shop.redo(), False)
        self.assertEqual((shop.semigroup(), shop.changes(), shop.undone()), ((ADD3, (2, 1)), 1, 0))

    def test_a_change_behind_an_undo(self):
        shop = Workshop((ADD3, (0, 0)))
        shop.set_letter(0, 1)
        shop.set_letter(1, 1)
        shop.undo()
        shop.undo()
        self.assertEqual(shop.undone(), 2)
        shop.set_letter(1, 2)
        self.assertEqual((shop.semigroup(), shop.changes(), shop.undone()), ((ADD3, (0, 2)), 1, 0))
        self.assertIs(shop.redo(), False)
        shop.undo()
        self.assertEqual(shop.semigroup(), (ADD3, (0, 0)))
        shop.redo()
        self.assertEqual(shop.semigroup(), (ADD3, (0, 2)))

    def test_two_workshops_side_by_side(self):
        semigroup = (ADD3, (0, 0))
        one, two = Workshop(semigroup), Workshop(semigroup)
        one.set_letter(0, 1)
        two.set_letter(1, 2)
        two.set_letter(0, 2)
        two.undo()
        self.assertEqual(state_of(one)[:3], ((ADD3, (1, 0)), 1, 0))
        self.assertEqual(state_of(two)[:3], ((ADD3, (0, 2)), 1, 1))
        one.undo()
        self.assertEqual(state_of(one)[:3], (semigroup, 0, 1))
        self.assertEqual(state_of(two)[:3], ((ADD3, (0, 2)), 1, 1))
        self.assertEqual(semigroup, (ADD3, (0, 0)))

    def test_many_steps_against_lists_of_all_semigroups(self):
        chosen = random.Random(39)
        for _ in range(30):
            letters = tuple(chosen.randrange(4) for _ in range(chosen.randint(1, 3)))
            shop, seen, at = Workshop((ADD4, letters)), [letters], 0
            for _ in range(60):
                step = chosen.choice(["set", "set", "set", "undo", "undo", "redo"])
                if step == "set":
                    letter, value = chosen.randrange(len(letters)), chosen.randrange(4)
                    new = list(seen[at])
                    new[letter] = value
                    self.assertIsNone(shop.set_letter(letter, value))
                    seen[at + 1:] = [tuple(new)]
                    at += 1
                elif step == "undo":
                    self.assertIs(shop.undo(), at > 0)
                    at = max(at - 1, 0)
                else:
                    self.assertIs(shop.redo(), at < len(seen) - 1)
                    at = min(at + 1, len(seen) - 1)
                self.assertEqual(
                    (shop.semigroup(), shop.changes(), shop.undone()), ((ADD4, seen[at]), at, len(seen) - 1 - at))


class Limit(unittest.TestCase):
    def test_100_changes_and_the_101st(self):
        shop = full_shop()
        self.assertEqual(shop.changes(), 100)
        before = state_of(shop)
        for letter, value in ((0, 1), (1, 0), (0, shop.semigroup()[1][0])):
            with self.assertRaises(TooManyChanges):
                shop.set_letter(letter, value)
        self.assertEqual(state_of(shop), before)

    def test_one_behind_an_undo_again(self):
        shop = full_shop()
        shop.undo()
        self.assertEqual((shop.changes(), shop.undone()), (99, 1))
        shop.set_letter(0, 1)
        self.assertEqual((shop.changes(), shop.undone(), shop.semigroup()[1][0]), (100, 0, 1))
        with self.assertRaises(TooManyChanges):
            shop.set_letter(0, 1)

    def test_all_of_them_taken_back_and_made_again(self):
        shop = full_shop()
        last = shop.semigroup()
        for _ in range(100):
            self.assertIs(shop.undo(), True)
        self.assertIs(shop.undo(), False)
        self.assertEqual((shop.semigroup(), shop.undone()), ((ADD3, (0, 0)), 100))
        for _ in range(100):
            self.assertIs(shop.redo(), True)
        self.assertIs(shop.redo(), False)
        self.assertEqual((shop.semigroup(), shop.changes()), (last, 100))
        with self.assertRaises(TooManyChanges):
            shop.set_letter(0, 0)

    def test_each_workshop_has_its_own(self):
        full_shop()
        shop = Workshop((ADD3, (0, 0)))
        shop.set_letter(0, 1)
        self.assertEqual(shop.changes(), 1)


class Refused(unittest.TestCase):
    def test_no_such_letter(self):
        for letters in ((0,), (0, 1), (0, 1, 2)):
            shop = Workshop((ADD3, letters))
            for letter in (-1, -2, -len(letters), len(letters), len(letters) + 1, 100):
                for value in (0, 2, 3, -1):
                    with self.assertRaises(InvalidLetter) as caught:
                        shop.set_letter(letter, value)
                    self.assertEqual(caught.exception.place, letter)

    def test_no_such_value(self):
        for table in (ONE, ADD2, ADD3, ADD4):
            shop = Workshop((table, (0, 0)))
            for value in (-1, -len(table), len(table), len(table) + 1, 100):
                for letter in (0, 1):
                    with self.assertRaises(InvalidValue):
                        shop.set_letter(letter, value)
            shop.set_letter(1, len(table) - 1)
            self.assertEqual(shop.semigroup(), (table, (0, len(table) - 1)))

    def test_the_order_of_the_errors(self):
        shop = full_shop()
        for letter, value, error in [
            (2, 0, InvalidLetter), (-1, 0, InvalidLetter), (2, 3, InvalidLetter), (0, 3, InvalidValue),
            (1, -1, InvalidValue), (1, 2, TooManyChanges),
        ]:
            with self.assertRaises(error):
                shop.set_letter(letter, value)

    def test_all_is_as_before(self):
        shop = Workshop((ADD3, (0, 1)))
        for letter, value in ((0, 1), (1, 2), (0, 2)):
            shop.set_letter(letter, value)
        shop.undo()
        shop.undo()
        before = state_of(shop)
        self.assertEqual(before[1:3], (1, 2))
        for letter, value in ((2, 0), (-1, 0), (0, 3), (0, -1)):
            with self.assertRaises(FilterError):
                shop.set_letter(letter, value)
            self.assertEqual(state_of(shop), before)
        self.assertIs(shop.redo(), True)
        self.assertIs(shop.redo(), True)
        self.assertEqual(shop.semigroup(), (ADD3, (2, 2)))

    def test_semigroups(self):
        check_faults(self, Workshop)


class Separate(unittest.TestCase):
    def test_behind_changes_undos_and_redos(self):
        shop = Workshop((RIGHT, (0, 0)))
        self.assertEqual(shop.separate((0,), (1,)), separate((RIGHT, (0, 0)), (0,), (1,)))
        shop.set_letter(1, 1)
        self.assertEqual(shop.separate((1,), (0,)), (
            "filter", (("none",), ("not", 0), ("letter", 1), ("behind", 1, 2))))
        shop.set_letter(0, 1)
        self.assertEqual(shop.separate((1,), (0,)), separate((RIGHT, (1, 1)), (1,), (0,)))
        shop.undo()
        self.assertEqual(shop.separate((1,), (0,)), separate((RIGHT, (0, 1)), (1,), (0,)))
        shop.undo()
        self.assertEqual(shop.separate((1,), (0,)), separate((RIGHT, (0, 0)), (1,), (0,)))
        shop.redo()
        self.assertEqual(shop.separate((1,), (0,)), separate((RIGHT, (0, 1)), (1,), (0,)))

    def test_met(self):
        shop = Workshop((ADD2, (0,)))
        self.assertEqual(shop.separate((0,), (1,))[0], "filter")
        shop.set_letter(0, 1)
        self.assertEqual(shop.separate((0,), (1,)), ("met", 1, (0, 1)))

    def test_each_sequence(self):
        chosen = random.Random(40)
        kinds = set()
        for table in (ADD2, LEFT, BAND, COUNT4, NILPOTENT):
            many = len(table)
            shop = Workshop((table, tuple(chosen.randrange(many) for _ in range(3))))
            for _ in range(8):
                step = chosen.choice(["set", "set", "undo", "redo"])
                if step == "set":
                    shop.set_letter(chosen.randrange(3), chosen.randrange(many))
                else:
                    getattr(shop, step)()
                before = state_of(shop)
                for first, second in zip(sets_of(table), reversed(list(sets_of(table)))):
                    found = told(shop.separate, first, second)
                    self.assertEqual(found, told(separate, shop.semigroup(), first, second))
                    kinds.add(found if isinstance(found, type) else found[0])
                self.assertEqual(state_of(shop), before)
        self.assertEqual(kinds, {"met", "filter", TooManyLines})

    def test_where_it_raises(self):
        shop = Workshop((NILPOTENT, (1, 2, 0)))
        self.assertEqual(shop.separate((1,), (2,))[0], "filter")
        shop.set_letter(2, 3)
        with self.assertRaises(TooManyLines):
            shop.separate((1,), (2,))
        shop.undo()
        self.assertEqual(shop.separate((1,), (2,))[0], "filter")
        shop.redo()
        with self.assertRaises(TooManyLines):
            shop.separate((1,), (2,))
        self.assertEqual((shop.changes(), shop.undone()), (1, 0))

    def test_no_sets_of_values(self):
        def call(semigroup, first, second):
            shop = Workshop(semigroup)
            shop.set_letter(0, 2)
            shop.set_letter(0, 0)
            shop.undo()
            shop.separate(first, second)

        check_no_sets(self, call)


class Kept(unittest.TestCase):
    def test_no_change(self):
        self.assertIsNone(Workshop((ADD3, (1,))).kept())

    def test_behind_a_change(self):
        # The family of the letter 0 is (0,) alone, and that of the letter 1 has seven sets.
        shop = Workshop((ADD3, (0,)))
        shop.set_letter(0, 1)
        self.assertEqual(shop.kept(), (1, 7, 1))
        shop.set_letter(0, 0)
        self.assertEqual(shop.kept(), (7, 1, 1))
        shop.set_letter(0, 0)
        self.assertEqual(shop.kept(), (1, 1, 1))

    def test_behind_an_undo(self):
        shop = Workshop((ADD3, (0,)))
        shop.set_letter(0, 1)
        shop.set_letter(0, 2)
        self.assertEqual(shop.kept()[:2], (7, 7))
        shop.undo()
        self.assertEqual(shop.kept(), (1, 7, 1))
        shop.undo()
        self.assertIsNone(shop.kept())
        shop.redo()
        self.assertEqual(shop.kept(), (1, 7, 1))

    def test_sets_that_are_not_kept(self):
        shop = Workshop((LEFT, (0, 0)))
        shop.set_letter(0, 1)
        self.assertEqual(shop.kept(), (1, 2, 1))
        shop.set_letter(1, 1)
        self.assertEqual(shop.kept(), (2, 1, 1))
        shop = Workshop((LEFT, (0,)))
        shop.set_letter(0, 1)
        self.assertEqual(shop.kept(), (1, 1, 0))

    def test_against_the_families(self):
        chosen = random.Random(41)
        for table in (ADD3, ADD4, BAND, COUNT4, NILPOTENT):
            shop = Workshop((table, (0, 0)))
            for _ in range(10):
                before = shop.semigroup()
                shop.set_letter(chosen.randrange(2), chosen.randrange(len(table)))
                former = [values for _, values in family_of(before)]
                now = [values for _, values in family_of(shop.semigroup())]
                self.assertEqual(shop.kept(), (len(former), len(now), len(set(former) & set(now))))
                self.assertIsInstance(shop.kept(), tuple)


if __name__ == "__main__":
    unittest.main()
