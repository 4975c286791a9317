"""Sets of values told apart by the beginnings and ends of their words (points 33 to 37)."""

from partfilter.checks import have_common
from partfilter.errors import NoLength
from partfilter.semigroups import check_sets, first_words, value_of


def ends_apart(semigroup, first, second, most):
    """A word of both sets, or rounds, or the least size up to the greatest one that tells them apart."""
    check_sets(semigroup, [first, second])
    common = [word for value, word in first_words(semigroup) if value in first and value in second]
    if common:
        return "word", common[0]
    rounds = rounds_of(semigroup, first, second)
    if rounds is not None:
        return "rounds", rounds
    for size in range(most + 1):
        if ends_differ(semigroup, first, second, size):
            return "apart", size
    raise NoLength("no size up to the greatest one tells the sets apart")


def rounds_of(semigroup, first, second):
    """The rounds of two sets, or None."""
    table = semigroup[0]
    words = first_words(semigroup)
    heads = staying(words, lambda value, other: table[value][other])
    tails = staying(words, lambda value, other: table[other][value])
    for head_value, head, loop in heads:
        for tail_value, tail, back in tails:
            left = middle_of(table, words, head_value, tail_value, first)
            right = middle_of(table, words, head_value, tail_value, second)
            if left is not None and right is not None:
                # The same word may stand in several places, and each of them gets a list of its own.
                return tuple([list(word) for word in (head, loop, left, right, back, tail)])
    return None


def staying(words, together):
    """The values that stay the same with another one, each with its word and the first word of such a one."""
    found = []
    for value, word in words:
        others = [other_word for other, other_word in words if together(value, other) == value]
        if others:
            found.append((value, word, others[0]))
    return found


def middle_of(table, words, head, tail, values):
    """The first word between a head and a tail with which they have a value of a set, or None."""
    if table[head][tail] in values:
        return []
    for value, word in words:
        if table[table[head][value]][tail] in values:
            return word
    return None


def round_words(rounds, times):
    """The two words of rounds, with the loop and the back so many times."""
    head, loop, left, right, back, tail = rounds
    ahead = head + loop * times
    behind = back * times + tail
    return ahead + left + behind, ahead + right + behind


def ends_differ(semigroup, first, second, size):
    """Whether a size tells apart two sets that have no word in common."""
    groups = values_by_ends(semigroup, size)
    return not any([have_common(values, first) and have_common(values, second) for values in groups])


def values_by_ends(semigroup, size):
    """For each beginning and end of so many letters the values of the words that have both."""
    table, letters = semigroup
    waiting = []
    for word in words_of_length(len(letters), max(size, 1)):
        waiting.append((word[:size], word[len(word) - size:], value_of(semigroup, word)))
    groups = {}
    while waiting:
        beginning, end, value = waiting.pop()
        values = groups.setdefault((beginning, end), [])
        if value not in values:
            values.append(value)
            for letter, behind in enumerate(letters):
                waiting.append((beginning, (end + (letter,))[1:], table[value][behind]))
    return list(groups.values())


def words_of_length(letters, length):
    """All words of so many letters, as tuples."""
    words = [()]
    for _ in range(length):
        words = [word + (letter,) for word in words for letter in range(letters)]
    return words
