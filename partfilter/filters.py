"""Filters: which words they take, their depth, and lines put down (points 7 to 11)."""

from partfilter.checks import are_below
from partfilter.errors import InvalidFilter, WordTooLong
from partfilter.semigroups import MOST_LETTERS

MOST_LINES = 300
MOST_WORD = 20
# How many numbers stand behind the string of a line.
NUMBERS = {"none": 0, "empty": 0, "letter": 1, "or": 2, "not": 1, "behind": 2}


def filter_fault(lines):
    """The number of the first line that is not valid, or None."""
    if len(lines) == 0:
        return 0
    for number, line in enumerate(lines[:MOST_LINES]):
        if not is_line(line, number):
            return number
    if len(lines) > MOST_LINES:
        return MOST_LINES
    return None


def is_line(line, number):
    """Whether a line is valid as the line of this number."""
    kind = line[0]
    if kind not in NUMBERS or len(line) != NUMBERS[kind] + 1:
        return False
    if kind == "letter":
        return are_below(line[1:], MOST_LETTERS)
    return are_below(line[1:], number)


def check_filter(lines):
    """Raise InvalidFilter if the filter has a fault."""
    fault = filter_fault(lines)
    if fault is not None:
        raise InvalidFilter(fault)


def takes(lines, word):
    """Whether a filter takes a word of at most 20 letters."""
    check_filter(lines)
    if len(word) > MOST_WORD:
        raise WordTooLong("more letters than takes works for")
    above = []
    for line in lines:
        above.append(ends_of(line, above, word))
    return above[-1][0] >> len(word) & 1 == 1


def ends_of(line, above, word):
    """For each place of a word a number with a bit for each end up to which the line takes it.

    All parts of the word are decided at once, one line after another, because
    asking for each part anew would ask for the same ones again and again.
    """
    places = range(len(word) + 1)
    kind = line[0]
    if kind == "none":
        return [0 for _ in places]
    if kind == "empty":
        return [1 << place for place in places]
    if kind == "letter":
        return [
            2 << place if place < len(word) and word[place] == line[1] else 0
            for place in places
        ]
    one = above[line[1]]
    if kind == "not":
        # All ends from the place on, less those that the line above takes.
        return [(2 << len(word)) - (1 << place) - one[place] for place in places]
    two = above[line[2]]
    if kind == "or":
        return [one[place] | two[place] for place in places]
    return [ends_behind(middles, two) for middles in one]


def ends_behind(middles, two):
    """The ends to which the second line of a behind leads from one of the middles."""
    found = 0
    for place, ends in enumerate(two):
        if middles >> place & 1 == 1:
            found = found | ends
    return found


def depth_of(lines):
    """The depth of a filter."""
    check_filter(lines)
    depths = []
    for line in lines:
        depths.append(line_depth(line, depths))
    return depths[-1]


def line_depth(line, depths):
    """The depth of a line, from the depths of the lines above."""
    kind = line[0]
    if kind == "none":
        return 0
    if kind == "empty":
        return 1
    if kind == "letter":
        return 2
    greatest = max([depths[part] for part in parts_of(line)])
    return greatest + 1 if kind == "behind" else greatest


def parts_of(line):
    """The numbers of the lines above that a line names."""
    return () if line[0] == "letter" else line[1:]


def trimmed(lines):
    """The filter with its last line put down: no line twice, and none that is not used."""
    check_filter(lines)
    return put_down(lines, len(lines) - 1)


def put_down(lines, last):
    """A line of a list, put down: all lines that it is made of, each once, itself behind them."""
    put = {}
    numbers = {}
    # A list of waiting lines instead of recursion: lines may be nested 300 deep and more.
    waiting = [last]
    while waiting:
        line = lines[waiting[-1]]
        missing = [part for part in parts_of(line) if part not in numbers]
        if missing:
            waiting.append(missing[0])
        else:
            renumbered = with_new_parts(line, numbers)
            numbers[waiting[-1]] = put.setdefault(renumbered, len(put))
            waiting.pop()
    return tuple(put)


def with_new_parts(line, numbers):
    """A line with the numbers under which its parts were put down."""
    if line[0] == "letter":
        return line
    parts = [numbers[part] for part in line[1:]]
    return (line[0], *parts)
