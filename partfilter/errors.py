"""The errors of the program, all under FilterError.

The message of an error with an attribute is what it was made with.
"""


class FilterError(ValueError):
    """The base of all errors of the program."""


class InvalidSemigroup(FilterError):
    """A semigroup has a fault; `word` tells which one."""

    def __init__(self, word):
        self.word = word


class InvalidMachine(FilterError):
    """A machine has a fault; `word` tells which one."""

    def __init__(self, word):
        self.word = word


class InvalidFilter(FilterError):
    """A filter is not valid; `number` is the first line at fault."""

    def __init__(self, number):
        self.number = number


class InvalidLine(FilterError):
    """A line of a text is not valid; `number` is the first one at fault."""

    def __init__(self, number):
        self.number = number


class InvalidLetter(FilterError):
    """A letter is not valid; `place` tells where or which one."""

    def __init__(self, place):
        self.place = place


class InvalidValue(FilterError):
    """A value or a set of values does not belong to the semigroup."""


class WordTooLong(FilterError):
    """A word that was passed has too many letters."""


class WordsTooLong(FilterError):
    """A word that would be returned has too many letters."""


class TooManyValues(FilterError):
    """A machine has too many maps for a semigroup."""


class TooManyStates(FilterError):
    """A reader has too many states."""


class TooManyQuestions(FilterError):
    """One call would ask too many questions."""


class TooManyLines(FilterError):
    """A filter would have too many lines."""


class NoLength(FilterError):
    """No size that is allowed tells the sets apart."""


class TooManyChanges(FilterError):
    """No more changes can be kept to be taken back."""
