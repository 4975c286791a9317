"""Words, semigroups, filters and machines, written as texts (points 41 to 43, and 46)."""

from partfilter.errors import InvalidLetter, InvalidLine, WordTooLong
from partfilter.filters import NUMBERS, check_filter
from partfilter.machines import check_machine
from partfilter.semigroups import check_semigroup

MOST_CHARACTERS = 60
MOST_DIGITS = 3
# The lines of a machine but for its rows.
LEAST_LINES = 3
DIGITS = "0123456789"


def format_word(word):
    """A word, written as the digits of its letters."""
    return "".join([str(letter) for letter in word])


def parse_word(letters, text):
    """The word of so many letters that is written so."""
    for place, character in enumerate(text):
        if character not in DIGITS[:letters]:
            raise InvalidLetter(place)
    if len(text) > MOST_CHARACTERS:
        raise WordTooLong("more characters than a word that is read may have")
    return [int(character) for character in text]


def format_line(name, numbers):
    """A line of a name and numbers."""
    return " ".join([name] + [str(number) for number in numbers])


def parse_line(line, number):
    """The first word of the line of this number, and the numbers behind it."""
    name, *words = line.split(" ")
    if not all([is_number(word) for word in words]):
        raise InvalidLine(number)
    return name, tuple([int(word) for word in words])


def is_number(word):
    """Whether a word is an integer, written as it should be."""
    return word.isdecimal() and len(word) <= MOST_DIGITS and str(int(word)) == word


def parse_lines(lines, names, single):
    """The numbers of lines that start with these names, each line of a single name with one number."""
    found = []
    for number, line in enumerate(lines):
        name, numbers = parse_line(line, number)
        if name != names[number] or (name in single and len(numbers) != 1):
            raise InvalidLine(number)
        found.append(numbers)
    return found


def format_semigroup(semigroup):
    """A semigroup, written as lines."""
    table, letters = semigroup
    return "\n".join([format_line("letters", letters)] + [format_line("row", row) for row in table])


def parse_semigroup(text):
    """The semigroup that is written so."""
    lines = text.split("\n")
    letters, *table = parse_lines(lines, ["letters"] + ["row"] * (len(lines) - 1), ())
    semigroup = (tuple(table), letters)
    check_semigroup(semigroup)
    return semigroup


def format_filter(lines):
    """A filter, written as lines."""
    return "\n".join([format_line(line[0], line[1:]) for line in lines])


def parse_filter(text):
    """The filter that is written so."""
    found = []
    for number, line in enumerate(text.split("\n")):
        kind, numbers = parse_line(line, number)
        if kind not in NUMBERS or len(numbers) != NUMBERS[kind]:
            raise InvalidLine(number)
        found.append((kind, *numbers))
    check_filter(found)
    return tuple(found)


def format_machine(machine):
    """A machine, written as lines."""
    letters, rows, first, lasts = machine
    lines = [format_line("letters", [letters])]
    lines.extend([format_line("row", row) for row in rows])
    lines.append(format_line("first", [first]))
    lines.append(format_line("lasts", lasts))
    return "\n".join(lines)


def parse_machine(text):
    """The machine that is written so."""
    lines = text.split("\n")
    if len(lines) < LEAST_LINES:
        raise InvalidLine(len(lines))
    names = ["letters"] + ["row"] * (len(lines) - LEAST_LINES) + ["first", "lasts"]
    found = parse_lines(lines, names, ("letters", "first"))
    machine = (found[0][0], tuple(found[1:-2]), found[-2][0], found[-1])
    check_machine(machine)
    return machine
