"""Sets of values told apart by the lengths of their words (points 31 and 32)."""

from partfilter.checks import have_common
from partfilter.semigroups import check_sets


def lengths_apart(semigroup, first, second):
    """Words of both sets with the same length, or what tells their lengths apart."""
    check_sets(semigroup, [first, second])
    rows, start = words_by_length(semigroup)
    for row in rows:
        if have_common(row, first) and have_common(row, second):
            return "words", [first_word_in(row, first), first_word_in(row, second)]
    total = 1
    while True:
        for threshold in range(total):
            modulus = total - threshold
            one = reduced_lengths(rows, start, first, threshold, modulus)
            two = reduced_lengths(rows, start, second, threshold, modulus)
            if not have_common(one, two):
                return "apart", threshold, modulus, one
        total += 1


def words_by_length(semigroup):
    """For each length the values of its words with the first words, until the values come again.

    The second part of the pair is the place of the length whose values come again.
    """
    rows = []
    known = []
    row = {}
    for letter, value in enumerate(semigroup[1]):
        row.setdefault(value, [letter])
    while sorted(row) not in known:
        rows.append(row)
        known.append(sorted(row))
        row = words_one_longer(semigroup, row)
    return rows, known.index(sorted(row))


def words_one_longer(semigroup, row):
    """The values of the words with one letter more, each with the first such word, in order."""
    table, letters = semigroup
    longer = {}
    # A first word of its length begins with a first word of the length before, and
    # what stands in a row is in the order of the words.
    for ahead, word in row.items():
        for letter, behind in enumerate(letters):
            longer.setdefault(table[ahead][behind], word + [letter])
    return longer


def first_word_in(row, values):
    """The first word of a row that has a value of a set."""
    words = [word for value, word in row.items() if value in values]
    return list(words[0])


def reduced_lengths(rows, start, values, threshold, modulus):
    """The reduced lengths of the words that have a value of a set."""
    period = len(rows) - start
    found = {}
    # From so many steps on, a length is alike to one with the same values that is shorter.
    for at in range(len(rows) + threshold + period * modulus):
        row = rows[at if at < start else start + (at - start) % period]
        if have_common(row, values):
            found[reduced(at + 1, threshold, modulus)] = True
    return sorted(found)


def reduced(length, threshold, modulus):
    """The least number that is alike to a length."""
    if length < threshold:
        return length
    return threshold + (length - threshold) % modulus
