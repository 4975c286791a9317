"""Semigroups, the values of words, and the first words of values (points 1 to 4)."""

from partfilter.checks import are_below, are_rows, is_rising_set
from partfilter.errors import InvalidSemigroup, InvalidValue

MOST_VALUES = 4
MOST_LETTERS = 3


def fault_of(semigroup):
    """The first fault of a semigroup, or None."""
    table, letters = semigroup
    many = len(table)
    if not 1 <= many <= MOST_VALUES or not are_rows(table, many, many):
        return "table"
    if not 1 <= len(letters) <= MOST_LETTERS or not are_below(letters, many):
        return "letters"
    if not is_associative(table):
        return "associative"
    return None


def is_associative(table):
    """Whether the product of three values does not depend on the parentheses."""
    values = range(len(table))
    return all([
        table[table[one][two]][three] == table[one][table[two][three]]
        for one in values
        for two in values
        for three in values
    ])


def check_semigroup(semigroup):
    """Raise InvalidSemigroup if the semigroup has a fault."""
    fault = fault_of(semigroup)
    if fault is not None:
        raise InvalidSemigroup(fault)


def check_sets(semigroup, sets):
    """Raise InvalidSemigroup, or InvalidValue if one of the tuples is not a set of values."""
    check_semigroup(semigroup)
    many = len(semigroup[0])
    for values in sets:
        if not is_rising_set(values, many):
            raise InvalidValue("not a set of values of the semigroup")


def value_of(semigroup, word):
    """The value of a word, or None for the empty word."""
    table, letters = semigroup
    value = None
    for letter in word:
        behind = letters[letter]
        value = behind if value is None else table[value][behind]
    return value


def first_words(semigroup):
    """The values that have words, each with its first word, in the order of these words."""
    table, letters = semigroup
    words = {}
    for letter, value in enumerate(letters):
        words.setdefault(value, [letter])
    # What is ahead of the last letter of a first word is a first word itself,
    # so it is enough to put letters behind first words, in their order.
    waiting = list(words)
    while waiting:
        ahead = waiting.pop(0)
        for letter, behind in enumerate(letters):
            value = table[ahead][behind]
            if value not in words:
                words[value] = words[ahead] + [letter]
                waiting.append(value)
    return list(words.items())


def has_common_word(semigroup, first, second):
    """Whether some word has a value of both sets of values."""
    for value, _ in first_words(semigroup):
        if value in first and value in second:
            return True
    return False
