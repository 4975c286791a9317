"""Words of the values of a set of the family that no filter of a depth tells apart (points 27 to 30)."""

from partfilter.alike import far
from partfilter.errors import WordsTooLong
from partfilter.family import family_of, product_of, settling
from partfilter.separating import meeting

MOST_WORD = 300


def word_of(semigroup, number, value, depth):
    """The word of a value of a set of the family, for a depth."""
    return made_word(semigroup[0], family_of(semigroup), depth, number, value)


def unseen(semigroup, sets, depth):
    """The first set of the family that meets all of some sets, with a value and a word for each, or None."""
    met = meeting(semigroup, sets)
    if met is None:
        return None
    number, values = met
    found = []
    for one in sets:
        common = [value for value in values if value in one]
        found.append((common[0], word_of(semigroup, number, common[0], depth)))
    return number, found


def made_word(table, family, depth, number, value):
    """The word of a value of the set of this number, made as the set was made."""
    made = family[number][0]
    if made[0] == "letter":
        return [made[1]]
    if made[0] == "both":
        _, one, two = made
        ahead, behind = first_factors(table, family[one][1], family[two][1], value)
        parts = [(one, ahead), (two, behind)]
    else:
        turn = made[1]
        parts = [(turn, part) for part in turn_of(table, family[turn][1], depth, value)]
    word = []
    for part_number, part in parts:
        word.extend(made_word(table, family, depth, part_number, part))
    check_length(len(word))
    return word


def check_length(length):
    """Raise WordsTooLong for too many letters, also of a part of the word that would be returned."""
    if length > MOST_WORD:
        raise WordsTooLong("more letters than a word that is returned may have")


def first_factors(table, one, two, value):
    """The first value of one set, and for it the first one of another set, with this product."""
    found = [
        (ahead, behind)
        for ahead in one
        for behind in two
        if table[ahead][behind] == value
    ]
    return found[0]


def turn_of(table, values, depth, value):
    """The values of a set, one behind the other, of which a turn makes a value."""
    period = settling(table, values)
    many = far(depth) + 1
    while many % period > 0:
        many += 1
    # Each of the values has a word of one letter or more.
    check_length(many)
    powers = [values]
    while len(powers) <= many:
        powers.append(product_of(table, powers[-1], values))
    if value not in powers[many - 1]:
        many += 1
    found = []
    for ahead in reversed(powers[:many - 1]):
        value, last = first_factors(table, ahead, values, value)
        found.append(last)
    return [value] + found[::-1]
