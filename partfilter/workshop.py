"""A semigroup whose letters change their values, with changes that can be taken back (39 and 40)."""

from partfilter.errors import InvalidLetter, InvalidValue, TooManyChanges
from partfilter.family import family_of
from partfilter.semigroups import check_semigroup
from partfilter.separating import separate

MOST_CHANGES = 100


class Workshop:
    """A semigroup whose letters change their values."""

    def __init__(self, semigroup):
        check_semigroup(semigroup)
        self.table, self.letters = semigroup
        # The values of the letters ahead of each change that can be taken back, the last change
        # at the end, and behind each change that can be made again, the next one at the end.
        self.past = []
        self.future = []

    def set_letter(self, letter, value):
        """Change the value of a letter."""
        if not 0 <= letter < len(self.letters):
            raise InvalidLetter(letter)
        if not 0 <= value < len(self.table):
            raise InvalidValue("no value of the semigroup")
        if len(self.past) == MOST_CHANGES:
            raise TooManyChanges("no more changes can be taken back at a time")
        self.past.append(self.letters)
        self.future = []
        self.letters = self.letters[:letter] + (value,) + self.letters[letter + 1:]

    def undo(self):
        """Take back the last change; whether there was one."""
        if not self.past:
            return False
        self.future.append(self.letters)
        self.letters = self.past.pop()
        return True

    def redo(self):
        """Make the change again that was taken back last; whether there was one."""
        if not self.future:
            return False
        self.past.append(self.letters)
        self.letters = self.future.pop()
        return True

    def semigroup(self):
        """The current semigroup."""
        return self.table, self.letters

    def changes(self):
        """How many changes can be taken back."""
        return len(self.past)

    def undone(self):
        """How many changes can be made again."""
        return len(self.future)

    def separate(self, first, second):
        """What separate returns or raises for the current semigroup."""
        return separate(self.semigroup(), first, second)

    def kept(self):
        """How many sets the families before and behind the last change have, and in common; or None."""
        if not self.past:
            return None
        before = [values for _, values in family_of((self.table, self.past[-1]))]
        now = [values for _, values in family_of(self.semigroup())]
        return len(before), len(now), len([values for values in before if values in now])
