"""Readers of filters, and the judge of what a filter tells apart (points 18 and 19)."""

from partfilter.filters import check_filter
from partfilter.semigroups import check_semigroup
from partfilter.walking import first_word_to, reached, step_of_both


def reader_of(lines, letters):
    """The reader of the last line of a filter, for a number of letters."""
    check_filter(lines)
    readers = []
    # A line that is not used is read too, because it may have too many states.
    for line in lines:
        readers.append(line_reader(line, readers, letters))
    return readers[-1]


def line_reader(line, readers, letters):
    """The reader of a line, from the readers of the lines above."""
    kind = line[0]
    if kind == "none":
        return [[0] * letters], [False]
    if kind == "empty":
        return [[1] * letters, [1] * letters], [True, False]
    if kind == "letter":
        start = [1 if letter == line[1] else 2 for letter in range(letters)]
        return [start, [2] * letters, [2] * letters], [False, True, False]
    one = readers[line[1]]
    if kind == "not":
        rows, taking = one
        return rows, [not taken for taken in taking]
    two = readers[line[2]]
    if kind == "or":
        return either_reader(one, two, letters)
    return behind_reader(one, two, letters)


def either_reader(one, two, letters):
    """The reader of what one of two readers takes."""
    one_rows, one_taking = one
    two_rows, two_taking = two
    pairs, rows = reached((0, 0), step_of_both(one_rows, two_rows), letters)
    return rows, [one_taking[here] or two_taking[there] for here, there in pairs]


def behind_reader(one, two, letters):
    """The reader of a word of the one reader with a word of the other one behind it."""
    one_rows, one_taking = one
    two_rows, two_taking = two

    def step(pair, letter):
        state, members = pair
        to = one_rows[state][letter]
        moved = [two_rows[member][letter] for member in members]
        if one_taking[to]:
            moved.append(0)
        return to, tuple(sorted(set(moved)))

    first = (0, (0,) if one_taking[0] else ())
    pairs, rows = reached(first, step, letters)
    return rows, [any([two_taking[at] for at in inside]) for _, inside in pairs]


def refuted_by(semigroup, first, second, lines):
    """The first word that shows that a filter does not tell two sets of values apart, or None."""
    check_semigroup(semigroup)
    table, values = semigroup
    rows, taking = reader_of(lines, len(values))

    def step(pair, letter):
        value, state = pair
        behind = values[letter]
        after = behind if value is None else table[value][behind]
        return after, rows[state][letter]

    def refutes(pair):
        # The empty word has the value None here, which is in neither set.
        value, state = pair
        return value in (second if taking[state] else first)

    return first_word_to((None, 0), step, refutes, len(values))
