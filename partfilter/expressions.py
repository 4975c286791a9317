"""Filters that are built up part by part, and put down when they are done (points 20 to 22)."""

from partfilter.errors import TooManyLines
from partfilter.filters import MOST_LINES, put_down, with_new_parts


class Expressions:
    """Expressions of the six kinds, each known by a number; equal ones have the same number."""

    def __init__(self):
        # Expressions share their parts, so that a long one costs little as a part
        # of many others, however long these are when they are put down.
        self.lines = []
        self.numbers = {}

    def number_of(self, line):
        """The number of the expression of a line over numbers of other expressions."""
        if line not in self.numbers:
            self.numbers[line] = len(self.lines)
            self.lines.append(line)
        return self.numbers[line]

    def number_of_filter(self, lines):
        """The number of the expression that a filter stands for."""
        found = []
        for line in lines:
            found.append(self.number_of(with_new_parts(line, found)))
        return found[-1]

    def lines_of(self, number):
        """An expression, put down as a filter."""
        lines = put_down(self.lines, number)
        if len(lines) > MOST_LINES:
            raise TooManyLines("more lines than a filter may have")
        return lines

    def inverse(self, one):
        """What an expression does not take."""
        return self.number_of(("not", one))

    def behind(self, one, two):
        """A word of one expression with a word of another one behind it."""
        return self.number_of(("behind", one, two))

    def both(self, one, two):
        """What two expressions take."""
        return self.inverse(self.number_of(("or", self.inverse(one), self.inverse(two))))

    def any_of(self, several):
        """What any of some expressions takes."""
        if not several:
            return self.number_of(("none",))
        found = several[-1]
        for one in reversed(several[:-1]):
            found = self.number_of(("or", one, found))
        return found

    def empty_word(self):
        """The empty word."""
        return self.number_of(("empty",))

    def all_words(self):
        """All words."""
        return self.inverse(self.number_of(("none",)))

    def word_of_letter(self, letter):
        """The word of one letter."""
        return self.number_of(("letter", letter))

    def beginning_with(self, letter):
        """Words that begin with a letter."""
        return self.behind(self.word_of_letter(letter), self.all_words())

    def ending_with(self, letter):
        """Words that end with a letter."""
        return self.behind(self.all_words(), self.word_of_letter(letter))

    def without(self, letter):
        """Words without a letter."""
        return self.inverse(self.behind(self.all_words(), self.beginning_with(letter)))

    def of_length(self, length):
        """Words with so many letters, at least one."""
        some = self.inverse(self.empty_word())
        one = self.both(some, self.inverse(self.behind(some, some)))
        found = one
        for _ in range(length - 1):
            found = self.behind(one, found)
        return found

    def of_length_from(self, length):
        """Words with so many letters or more, at least one."""
        return self.behind(self.of_length(length), self.all_words())

    def put_back(self, number, new_letters, letter):
        """An expression of new letters with their expressions in place of them.

        The new letters are blocks that begin with the letter.
        """
        starting = self.beginning_with(letter)
        whole = self.number_of(("or", self.empty_word(), starting))
        found = []
        for line in self.lines_of(number):
            if line[0] == "letter":
                found.append(new_letters[line[1]])
            elif line[0] == "not":
                found.append(self.both(self.inverse(found[line[1]]), whole))
            else:
                found.append(self.number_of(with_new_parts(line, found)))
        return self.both(found[-1], starting)
