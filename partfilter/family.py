"""Products of sets of values, and the family of a semigroup (points 15 and 16)."""

from partfilter.semigroups import check_semigroup


def product_of(table, one, two):
    """The product of two sets of values."""
    return tuple(sorted({table[ahead][behind] for ahead in one for behind in two}))


def settling(table, one):
    """How many times a set is repeated until it is settled."""
    number, _ = repeated_until_settled(table, one)
    return number


def settled(table, one):
    """The settled set of a set."""
    _, values = repeated_until_settled(table, one)
    return values


def repeated_until_settled(table, one):
    """The settling number of a set, and its settled set."""
    number = 1
    values = one
    while product_of(table, values, values) != values:
        number += 1
        values = product_of(table, values, one)
    return number, values


def turned(table, one):
    """The turned set of a set."""
    base = settled(table, one)
    return tuple(sorted(set(base + product_of(table, base, one))))


def family_of(semigroup):
    """The family of a semigroup: each set with how it was made first."""
    check_semigroup(semigroup)
    table, letters = semigroup
    family = []
    for letter, value in enumerate(letters):
        add_set(family, ("letter", letter), (value,))
    number = 0
    while number < len(family):
        add_made_of(table, family, number)
        number += 1
    return family


def add_made_of(table, family, number):
    """Add what is made of the set of this number, alone and with the sets up to it."""
    values = family[number][1]
    add_set(family, ("turn", number), turned(table, values))
    for other in range(number + 1):
        others = family[other][1]
        add_set(family, ("both", number, other), product_of(table, values, others))
        add_set(family, ("both", other, number), product_of(table, others, values))


def add_set(family, made, values):
    """Add a set that is not in the family already."""
    if values not in [known for _, known in family]:
        family.append((made, values))
