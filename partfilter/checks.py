"""Checks of plain numbers that many parts of the program have in common."""


def are_below(numbers, many):
    """Whether all numbers are from 0 to many - 1."""
    return all([0 <= number < many for number in numbers])


def are_rows(rows, size, many):
    """Whether all rows have this size, and members from 0 to many - 1."""
    return all([len(row) == size and are_below(row, many) for row in rows])


def is_rising_set(numbers, many):
    """Whether the numbers are different, ascending, and from 0 to many - 1."""
    return list(numbers) == sorted(set(numbers)) and are_below(numbers, many)


def have_common(one, two):
    """Whether a number stands in both of two tuples, lists or dicts."""
    return any([number in two for number in one])
