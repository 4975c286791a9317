"""Tables and semigroups that several tests go through, and what is not valid of them."""

import functools
import itertools
import random

from partfilter.errors import InvalidSemigroup, InvalidValue

ONE = ((0,),)
# Addition of remainders by 2, 3 and 4.
ADD2 = ((0, 1), (1, 0))
ADD3 = ((0, 1, 2), (1, 2, 0), (2, 0, 1))
ADD4 = tuple(tuple((a + b) % 4 for b in range(4)) for a in range(4))
# The product is the left one, or the right one.
LEFT = ((0, 0), (1, 1))
RIGHT = ((0, 1), (0, 1))
# Two by two: the place in the row of the one, and in the column of the other.
BAND = tuple(tuple((a // 2) * 2 + b % 2 for b in range(4)) for a in range(4))
# The value k is a word of k + 1 letters, and the last one is any longer one.
COUNT3 = tuple(tuple(min(a + b + 1, 2) for b in range(3)) for a in range(3))
COUNT4 = tuple(tuple(min(a + b + 1, 3) for b in range(4)) for a in range(4))
# The value 0 returns to the value 1 after two more times: powers 0, 1, 2, 1, 2 and so on.
TAIL = ((1, 2, 1), (2, 1, 2), (1, 2, 1))
# The values 0 and 1 are added as remainders by 2, and with 2 the product is 2.
CUT = ((0, 1, 2), (1, 0, 2), (2, 2, 2))
# The value 1 is that of all words in which it stands.
ABSORB = ((0, 1), (1, 1))
# Of the values of two letters or more only that of 3 twice is not 0.
NILPOTENT = ((0, 0, 0, 0), (0, 0, 0, 0), (0, 0, 0, 0), (0, 0, 0, 1))
TABLES = [ONE, ADD2, ADD3, ADD4, LEFT, RIGHT, BAND, COUNT3, COUNT4, TAIL, CUT, ABSORB]
NOT_ASSOCIATIVE = ((1, 0), (0, 0))

# Semigroups that are not valid, each with the word of its fault.
FAULTS = [
    (((), (0,)), "table"),
    ((((0, 0),), (0,)), "table"),
    ((((0, 2), (0, 0)), (0,)), "table"),
    ((((0, -1), (0, 0)), (0,)), "table"),
    ((((0,) * 5,) * 5, (0,)), "table"),
    ((((0, 2), (0, 0)), ()), "table"),
    ((ADD2, ()), "letters"),
    ((ADD2, (0, 1, 0, 1)), "letters"),
    ((ADD2, (2,)), "letters"),
    ((ADD2, (0, -1)), "letters"),
    ((NOT_ASSOCIATIVE, (2,)), "letters"),
    ((NOT_ASSOCIATIVE, (0,)), "associative"),
]
# What is no set of values of a table of three values.
NO_SETS = [(3,), (-1,), (0, 3), (-1, 0), (-3, 0, 1), (1, 0), (0, 2, 1), (0, 0), (0, 1, 1), (2, 2, 2), (7, 8)]


def sets_of(table):
    """All sets of values of a table, the empty one first."""
    values = range(len(table))
    for size in range(len(table) + 1):
        yield from itertools.combinations(values, size)


def is_associative(table):
    return all(table[table[a][b]][c] == table[a][table[b][c]]
               for a, b, c in itertools.product(range(len(table)), repeat=3))


@functools.cache
def tables_of(n):
    """All tables of n values that are associative."""
    found = []
    rows = [[None] * n for _ in range(n)]

    def agrees():
        for a, b, c in itertools.product(range(n), repeat=3):
            ahead, behind = rows[a][b], rows[b][c]
            if ahead is not None and behind is not None:
                one, two = rows[ahead][c], rows[a][behind]
                if one is not None and two is not None and one != two:
                    return False
        return True

    def fill(at):
        if at == n * n:
            found.append(tuple(map(tuple, rows)))
            return
        for value in range(n):
            rows[at // n][at % n] = value
            if agrees():
                fill(at + 1)
        rows[at // n][at % n] = None

    fill(0)
    return found


def semigroups_of(n, most=3):
    """All semigroups of n values with up to so many letters."""
    for table in tables_of(n):
        for many in range(1, most + 1):
            for letters in itertools.product(range(n), repeat=many):
                yield table, letters


def semigroups_up_to(n, most=3):
    """All semigroups of up to n values with up to so many letters."""
    for size in range(1, n + 1):
        yield from semigroups_of(size, most)


def some_semigroups(count, seed):
    """Semigroups of three and four values, for one seed always the same ones."""
    chosen = random.Random(seed)
    for number in range(count):
        n = 3 if number % 4 == 0 else 4
        table = chosen.choice(tables_of(n))
        yield table, tuple(chosen.randrange(n) for _ in range(chosen.randint(1, 3)))


def check_faults(case, call):
    """See that a call of a semigroup raises InvalidSemigroup with the word of its fault."""
    for semigroup, word in FAULTS:
        with case.subTest(semigroup=semigroup):
            with case.assertRaises(InvalidSemigroup) as caught:
                call(semigroup)
            case.assertEqual(caught.exception.word, word)


def check_no_sets(case, call):
    """See that a call of a semigroup and two sets of values refuses what is none, the semigroup first."""
    for wrong in NO_SETS:
        for sets in ((wrong, ()), ((), wrong), (wrong, wrong), ((0, 1, 2), wrong), (wrong, (0, 1, 2))):
            with case.subTest(sets=sets):
                with case.assertRaises(InvalidValue):
                    call((ADD3, (1,)), *sets)
                with case.assertRaises(InvalidSemigroup):
                    call((ADD3, (3,)), *sets)
