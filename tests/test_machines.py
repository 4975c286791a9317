"""Points [5] and [6]: machines, which words they take, and their semigroups."""

import itertools
import unittest

from partfilter.errors import InvalidMachine, TooManyValues
from partfilter.machines import machine_fault, machine_takes, semigroup_of
from partfilter.semigroups import fault_of, first_words, value_of

# An even number of the letter 1; the letter 0 does nothing.
EVEN = (2, ((0, 1), (1, 0)), 0, (0,))
# One letter that leads round in a circle.
CIRCLE = (1, ((1,), (2,), (3,), (0,)), 0, (0,))


def words_up_to(letters, most):
    for size in range(most + 1):
        for word in itertools.product(range(letters), repeat=size):
            yield list(word)


def plain_map(machine, word):
    """The map of a word, state by state and letter by letter."""
    rows = machine[1]
    ends = []
    for state in range(len(rows)):
        for letter in word:
            state = rows[state][letter]
        ends.append(state)
    return tuple(ends)


def plain_maps(machine, most):
    """The maps of the words up to a size, in the order of their first words."""
    maps = []
    for word in words_up_to(machine[0], most):
        if word and plain_map(machine, word) not in maps:
            maps.append(plain_map(machine, word))
    return maps


def machines(states, letters):
    for members in itertools.product(range(states), repeat=states * letters):
        yield letters, tuple(members[k * letters:(k + 1) * letters] for k in range(states))


class Fault(unittest.TestCase):
    def test_one_to_three_letters(self):
        for letters in (1, 2, 3):
            self.assertIsNone(machine_fault((letters, ((0,) * letters,), 0, (0,))))

    def test_other_numbers_of_letters(self):
        for letters in (0, 4, 5, -1, -3, 100):
            with self.subTest(letters=letters):
                size = max(letters, 0)
                self.assertEqual(machine_fault((letters, ((0,) * size,), 0, (0,))), "letters")

    def test_one_to_four_states(self):
        for states in (1, 2, 3, 4):
            rows = tuple((states - 1,) for _ in range(states))
            self.assertIsNone(machine_fault((1, rows, states - 1, tuple(range(states)))))

    def test_no_states_and_five(self):
        self.assertEqual(machine_fault((1, (), 0, ())), "rows")
        self.assertEqual(machine_fault((1, ((0,),) * 5, 0, ())), "rows")
        self.assertEqual(machine_fault((2, ((0, 0),) * 6, 0, ())), "rows")

    def test_a_row_of_another_size(self):
        for at in range(4):
            for row in ((), (0,), (0, 0, 0), (0, 0, 0, 0)):
                rows = tuple(row if k == at else (0, 1) for k in range(4))
                with self.subTest(rows=rows):
                    self.assertEqual(machine_fault((2, rows, 0, (0,))), "rows")
        # All rows have the same size, but there are more or fewer letters.
        self.assertEqual(machine_fault((1, ((0, 0), (1, 1)), 0, (0,))), "rows")
        self.assertEqual(machine_fault((3, ((0, 0), (1, 1)), 0, (0,))), "rows")

    def test_as_many_states_as_letters_are_not_needed(self):
        self.assertIsNone(machine_fault((3, ((0, 1, 1), (1, 0, 0)), 1, (1,))))
        self.assertIsNone(machine_fault((1, ((2,), (1,), (0,)), 2, (1, 2))))

    def test_a_member_that_is_no_state(self):
        for row, column in itertools.product(range(3), range(2)):
            for wrong in (-1, -3, 3, 4, 100):
                rows = [[0, 0] for _ in range(3)]
                rows[row][column] = wrong
                machine = (2, tuple(map(tuple, rows)), 0, (0,))
                with self.subTest(machine=machine):
                    self.assertEqual(machine_fault(machine), "rows")

    def test_the_first_state(self):
        for first in (0, 1, 2):
            self.assertIsNone(machine_fault((1, ((0,), (1,), (2,)), first, ())))
        for first in (-1, -2, 3, 4, 100):
            with self.subTest(first=first):
                self.assertEqual(machine_fault((1, ((0,), (1,), (2,)), first, ())), "first")

    def test_the_last_states(self):
        rows = ((0,), (1,), (2,))
        for size in range(4):
            for lasts in itertools.combinations(range(3), size):
                self.assertIsNone(machine_fault((1, rows, 0, lasts)))
        for lasts in ((1, 0), (0, 2, 1), (2, 1, 0), (0, 0), (1, 1), (0, 1, 1), (0, 0, 1),
                      (3,), (-1,), (0, 3), (-1, 0), (0, 1, 2, 3), (0, 1, 2, 2), (100,)):
            with self.subTest(lasts=lasts):
                self.assertEqual(machine_fault((1, rows, 0, lasts)), "lasts")

    def test_several_faults(self):
        self.assertEqual(machine_fault((0, (), -1, (0,))), "letters")
        self.assertEqual(machine_fault((4, ((0,),), 0, (0,))), "letters")
        self.assertEqual(machine_fault((4, ((0, 0, 0, 1),), 1, (1,))), "letters")
        self.assertEqual(machine_fault((0, ((),), 1, ())), "letters")
        self.assertEqual(machine_fault((0, ((),), 0, (1,))), "letters")
        self.assertEqual(machine_fault((1, (), 0, (0,))), "rows")
        self.assertEqual(machine_fault((1, ((1,),), 1, (1,))), "rows")
        self.assertEqual(machine_fault((1, ((0, 0),), -1, ())), "rows")
        self.assertEqual(machine_fault((1, ((0,), (2,)), 0, (1, 0))), "rows")
        self.assertEqual(machine_fault((1, ((0,),), 1, (1,))), "first")
        self.assertEqual(machine_fault((1, ((0,),), -1, (0, 0))), "first")


class Takes(unittest.TestCase):
    def test_the_empty_word(self):
        self.assertIs(machine_takes(EVEN, []), True)
        self.assertIs(machine_takes((2, EVEN[1], 0, (1,)), []), False)
        self.assertIs(machine_takes((2, EVEN[1], 1, (1,)), []), True)
        self.assertIs(machine_takes((2, EVEN[1], 1, ()), []), False)

    def test_words(self):
        for word in words_up_to(2, 6):
            self.assertIs(machine_takes(EVEN, word), word.count(1) % 2 == 0)
            odd = (2, EVEN[1], 0, (1,))
            self.assertIs(machine_takes(odd, word), word.count(1) % 2 == 1)

    def test_the_first_state_counts(self):
        for first in range(4):
            machine = (1, CIRCLE[1], first, (0, 2))
            for size in range(9):
                self.assertIs(machine_takes(machine, [0] * size), (first + size) % 2 == 0)

    def test_the_order_of_the_letters(self):
        # State 2 is reached by the letter 0 with the letter 1 behind it alone.
        machine = (2, ((1, 3), (3, 2), (3, 3), (3, 3)), 0, (2,))
        taken = [word for word in words_up_to(2, 4) if machine_takes(machine, word)]
        self.assertEqual(taken, [[0, 1]])

    def test_three_letters(self):
        machine = (3, ((0, 1, 2), (0, 1, 2), (0, 1, 2)), 0, (1, 2))
        for word in words_up_to(3, 4):
            self.assertIs(machine_takes(machine, word), word != [] and word[-1] in (1, 2))

    def test_no_last_states(self):
        for word in words_up_to(2, 4):
            self.assertIs(machine_takes((2, EVEN[1], 0, ()), word), False)
            self.assertIs(machine_takes((2, EVEN[1], 0, (0, 1)), word), True)

    def test_a_long_word_that_stays_as_it_was(self):
        word = [1] * 1001
        self.assertIs(machine_takes(EVEN, word), False)
        self.assertEqual(word, [1] * 1001)


class Semigroup(unittest.TestCase):
    def fault(self, machine):
        with self.assertRaises(InvalidMachine) as caught:
            semigroup_of(machine)
        return caught.exception.word

    def test_all_that_is_returned(self):
        told = semigroup_of(EVEN)
        self.assertEqual(told, ((((0, 1), (1, 0)), (0, 1)), (0,), True, [(0, 1), (1, 0)]))
        self.assertIsInstance(told, tuple)
        self.assertIs(told[2], True)
        self.assertIs(semigroup_of((2, EVEN[1], 1, (0,)))[2], False)

    def test_the_values_that_are_taken(self):
        rows = CIRCLE[1]
        maps = [(1, 2, 3, 0), (2, 3, 0, 1), (3, 0, 1, 2), (0, 1, 2, 3)]
        table = ((1, 2, 3, 0), (2, 3, 0, 1), (3, 0, 1, 2), (0, 1, 2, 3))
        for first, lasts, values, empty in (
                (0, (0,), (3,), True), (0, (1, 2), (0, 1), False), (2, (1, 2), (2, 3), True),
                (3, (0, 1, 2), (0, 1, 2), False), (0, (), (), False), (1, (0, 3), (1, 2), False)):
            self.assertEqual(semigroup_of((1, rows, first, lasts)),
                             ((table, (0,)), values, empty, maps))

    def test_letters_with_the_same_map(self):
        told = semigroup_of((3, ((1, 0, 1), (0, 1, 0)), 0, (1,)))
        self.assertEqual(told, ((((1, 0), (0, 1)), (0, 1, 0)), (0,), False, [(1, 0), (0, 1)]))
        told = semigroup_of((3, ((0, 0, 0),), 0, ()))
        self.assertEqual(told, ((((0,),), (0, 0, 0)), (), False, [(0,)]))

    def test_maps_are_found_breadth_first(self):
        told = semigroup_of((2, ((0, 1), (0, 0)), 0, (1,)))
        self.assertEqual(told[3], [(0, 0), (1, 0), (1, 1), (0, 1)])
        self.assertEqual(told[0], (((0, 2, 2, 0), (0, 3, 2, 1), (0, 0, 2, 2), (0, 1, 2, 3)), (0, 1)))
        self.assertEqual(told[1:3], ((1, 2), False))

    def test_letters_are_put_behind(self):
        # The letter 0 with the letter 1 behind it comes before the other way round.
        told = semigroup_of((2, ((0, 0), (0, 1), (2, 1)), 2, (2,)))
        self.assertEqual(told[3], [(0, 0, 2), (0, 1, 1), (0, 0, 1), (0, 0, 0)])
        self.assertEqual(told[0], (((0, 2, 2, 3), (3, 1, 3, 3), (3, 2, 3, 3), (3, 3, 3, 3)), (0, 1)))
        self.assertEqual(told[1:3], ((0,), True))

    def test_letters_are_put_behind_in_their_order(self):
        told = semigroup_of((2, ((0, 1), (0, 1), (2, 0)), 0, (0, 2)))
        self.assertEqual(told[3], [(0, 0, 2), (1, 1, 0), (0, 0, 0), (1, 1, 1)])
        self.assertEqual(told[0], (((0, 1, 2, 3), (2, 3, 2, 3), (2, 3, 2, 3), (2, 3, 2, 3)), (0, 1)))
        self.assertEqual(told[1:3], ((0, 2), True))

    def test_more_than_four_maps(self):
        for letters, rows in (
                (2, ((0, 0), (0, 2), (1, 0))), (2, ((0, 0), (0, 2), (1, 2))),
                (3, ((0, 0, 0), (0, 0, 2), (0, 1, 0))), (2, ((0, 0), (0, 0), (0, 1), (2, 3))),
                (2, ((1, 1), (0, 2), (2, 0))),
                (3, ((0, 0, 0), (0, 0, 0), (0, 0, 1), (0, 2, 3)))):
            with self.subTest(rows=rows):
                self.assertGreater(len(plain_maps((letters, rows), 4)), 4)
                with self.assertRaises(TooManyValues):
                    semigroup_of((letters, rows, 0, (0,)))

    def test_a_machine_that_is_not_valid(self):
        self.assertEqual(self.fault((0, ((0,),), 0, ())), "letters")
        self.assertEqual(self.fault((4, ((0, 0, 0, 0),), 0, ())), "letters")
        self.assertEqual(self.fault((1, (), 0, ())), "rows")
        self.assertEqual(self.fault((1, ((1,),), 0, ())), "rows")
        self.assertEqual(self.fault((1, ((0,),) * 5, 0, ())), "rows")
        self.assertEqual(self.fault((1, ((0,),), 1, ())), "first")
        self.assertEqual(self.fault((1, ((0,),), -1, ())), "first")
        self.assertEqual(self.fault((1, ((0,),), 0, (1,))), "lasts")
        self.assertEqual(self.fault((1, ((0,), (1,)), 0, (1, 0))), "lasts")

    def test_a_fault_comes_before_too_many_maps(self):
        # The maps of these rows are all maps of three states.
        rows = ((1, 1, 0), (0, 2, 0), (2, 0, 2))
        with self.assertRaises(TooManyValues):
            semigroup_of((3, rows, 0, (0,)))
        self.assertEqual(self.fault((3, rows, 3, (0,))), "first")
        self.assertEqual(self.fault((3, rows, -1, (0,))), "first")
        self.assertEqual(self.fault((3, rows, 0, (3,))), "lasts")
        self.assertEqual(self.fault((3, rows, 0, (0, 0))), "lasts")
        self.assertEqual(self.fault((3, rows[:2] + ((2, 0, 3),), 0, (0,))), "rows")
        self.assertEqual(self.fault((2, rows, 0, (0,))), "rows")
        self.assertEqual(self.fault((4, rows, 0, (0,))), "letters")

    def test_against_the_words(self):
        for states, letters in ((1, 1), (1, 3), (2, 1), (2, 2), (2, 3), (3, 1), (3, 2), (4, 1)):
            for machine in machines(states, letters):
                self.check_against_the_words(machine + (states - 1, (0,)))

    def check_against_the_words(self, machine):
        # The fifth map, if there is one, has a word of at most five letters.
        maps = plain_maps(machine, 5)
        if len(maps) > 4:
            with self.assertRaises(TooManyValues):
                semigroup_of(machine)
            return
        semigroup, values, empty, told = semigroup_of(machine)
        self.assertEqual(told, maps)
        self.assertIsNone(fault_of(semigroup))
        self.assertEqual([value for value, _ in first_words(semigroup)], list(range(len(maps))))
        self.assertEqual(empty, machine_takes(machine, []))
        self.assertEqual(list(values), sorted(set(values)))
        for word in words_up_to(machine[0], 3):
            if word:
                value = value_of(semigroup, word)
                self.assertEqual(maps[value], plain_map(machine, word))
                self.assertEqual(value in values, machine_takes(machine, word))

    def test_the_kinds_of_what_is_returned(self):
        semigroup, values, _, maps = semigroup_of(EVEN)
        for worth in (semigroup, semigroup[0], semigroup[1], values, semigroup[0][1], maps[0]):
            self.assertIsInstance(worth, tuple)
        self.assertIsInstance(maps, list)

    def test_the_list_is_new(self):
        semigroup_of(EVEN)[3].clear()
        self.assertEqual(semigroup_of(EVEN)[3], [(0, 1), (1, 0)])


if __name__ == "__main__":
    unittest.main()
