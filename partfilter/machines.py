"""Machines that read words, and their semigroups (points 5 and 6)."""

from partfilter.checks import are_below, are_rows, is_rising_set
from partfilter.errors import InvalidMachine, TooManyValues
from partfilter.semigroups import MOST_LETTERS, MOST_VALUES

MOST_STATES = 4


def machine_fault(machine):
    """The first fault of a machine, or None."""
    letters, rows, first, lasts = machine
    many = len(rows)
    if not 1 <= letters <= MOST_LETTERS:
        return "letters"
    if not 1 <= many <= MOST_STATES or not are_rows(rows, letters, many):
        return "rows"
    if not are_below([first], many):
        return "first"
    if not is_rising_set(lasts, many):
        return "lasts"
    return None


def check_machine(machine):
    """Raise InvalidMachine if the machine has a fault."""
    fault = machine_fault(machine)
    if fault is not None:
        raise InvalidMachine(fault)


def machine_takes(machine, word):
    """Whether a machine takes a word."""
    _, rows, state, lasts = machine
    for letter in word:
        state = rows[state][letter]
    return state in lasts


def semigroup_of(machine):
    """The semigroup of a machine, the values it takes, whether it takes the empty word, the maps."""
    check_machine(machine)
    letters, rows, first, lasts = machine
    letter_maps = [tuple([row[letter] for row in rows]) for letter in range(letters)]
    maps = maps_of_words(letter_maps)
    table = tuple([
        tuple([maps.index(map_behind(one, two)) for two in maps])
        for one in maps
    ])
    semigroup = (table, tuple([maps.index(one) for one in letter_maps]))
    values = tuple([value for value, one in enumerate(maps) if one[first] in lasts])
    return semigroup, values, first in lasts, maps


def maps_of_words(letter_maps):
    """The maps of all words that are not empty, in the order in which they are found."""
    maps = []
    for letter_map in letter_maps:
        add_map(maps, letter_map)
    at = 0
    while at < len(maps):
        for letter_map in letter_maps:
            add_map(maps, map_behind(maps[at], letter_map))
        at += 1
    return maps


def add_map(maps, found):
    """Add a map that was not found yet."""
    if found in maps:
        return
    if len(maps) == MOST_VALUES:
        raise TooManyValues("more maps than a semigroup has values")
    maps.append(found)


def map_behind(one, two):
    """The map of a word of the map one with a word of the map two behind it."""
    return tuple([two[state] for state in one])
