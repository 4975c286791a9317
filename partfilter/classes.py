"""The classes of a semigroup: filters, each with a bound of the values it takes (points 20 to 24)."""

from partfilter.errors import TooManyQuestions
from partfilter.expressions import Expressions
from partfilter.family import family_of, product_of, settled, settling, turned

MOST_QUESTIONS = 40


def classes_of(semigroup):
    """The classes of a semigroup: pairs of a filter and a bound."""
    family = [values for _, values in family_of(semigroup)]
    table, values = semigroup
    inquiry = Inquiry(table)
    letters = [(letter, (value,)) for letter, value in enumerate(values)]
    return [
        (inquiry.expressions.lines_of(number), bound)
        for number, bound in inquiry.answer(letters, family)
    ]


class Inquiry:
    """The questions of one call, and the expressions of the classes that answer them.

    A question is a list of pairs of a letter and its set, and a family of sets.
    A class is a pair of the number of an expression and a bound.
    """

    def __init__(self, table):
        self.table = table
        self.expressions = Expressions()
        self.questions = 0

    def answer(self, letters, family):
        """The classes that answer a question."""
        if self.questions == MOST_QUESTIONS:
            raise TooManyQuestions("more questions than one call may ask")
        self.questions += 1
        classes = self.with_different_bounds(self.found_classes(letters, family))
        for number, _ in classes:
            # Putting down raises the error of a filter that is too long.
            self.expressions.lines_of(number)
        return classes

    def with_different_bounds(self, classes):
        """The classes, with those of the same bound made one."""
        groups = {}
        for number, bound in classes:
            groups.setdefault(bound, []).append(number)
        return [(self.expressions.any_of(group), bound) for bound, group in groups.items()]

    def found_classes(self, letters, family):
        """The classes by the first rule that applies."""
        if not letters:
            return []
        for at, (_, values) in enumerate(letters):
            if self.behind_letter(values, family) != family:
                return self.classes_by_letter(letters, at, family)
        if all([self.is_kept(values, family) for _, values in letters]):
            return self.classes_by_ending(letters)
        return self.classes_by_length(letters[0][1])

    def behind_letter(self, values, family):
        """The sets of a family that are the set of a letter, or its product with one of them."""
        near = [values] + [product_of(self.table, values, one) for one in family]
        return [one for one in family if one in near]

    def is_kept(self, values, family):
        """Whether a set is the product of itself and a set of a family."""
        return values in [product_of(self.table, values, one) for one in family]

    def classes_by_letter(self, letters, at, family):
        """The classes by rule 2: words without a letter, and words cut ahead of each of its places."""
        letter, values = letters[at]
        others = self.answer(letters[:at] + letters[at + 1:], family)
        plain = [
            (self.expressions.both(number, self.expressions.without(letter)), bound)
            for number, bound in others
        ]
        blocks = self.blocks(letter, values, plain)
        begun = self.classes_of_blocks(letter, blocks, self.behind_letter(values, family))
        joined = [
            (self.expressions.behind(ahead, behind), product_of(self.table, one, two))
            for ahead, one in plain
            for behind, two in begun
        ]
        return plain + begun + joined

    def blocks(self, letter, values, plain):
        """The new letters of rule 2: for each set the number of their expression."""
        groups = {values: [self.expressions.empty_word()]}
        for number, bound in plain:
            groups.setdefault(product_of(self.table, values, bound), []).append(number)
        ahead = self.expressions.word_of_letter(letter)
        return {
            one: self.expressions.behind(ahead, self.expressions.any_of(group))
            for one, group in groups.items()
        }

    def classes_of_blocks(self, letter, blocks, family):
        """The classes of words that begin with a letter, from the question with its blocks as letters."""
        new_letters = list(blocks.values())
        return [
            (self.expressions.put_back(number, new_letters, letter), bound)
            for number, bound in self.answer(list(enumerate(blocks)), family)
        ]

    def classes_by_ending(self, letters):
        """The classes by rule 3: words by their last letter."""
        ahead = turned(self.table, letters[0][1])
        for _, values in letters[1:]:
            ahead = product_of(self.table, ahead, turned(self.table, values))
        base = settled(self.table, ahead)
        return [
            (
                self.expressions.ending_with(letter),
                product_of(self.table, base, settled(self.table, values)),
            )
            for letter, values in letters
        ]

    def classes_by_length(self, values):
        """The classes by rule 4: words by their length, up to the settling number of a set."""
        found = []
        many = settling(self.table, values)
        bound = values
        for length in range(1, many):
            found.append((self.expressions.of_length(length), bound))
            bound = product_of(self.table, bound, values)
        last = settled(self.table, turned(self.table, values))
        found.append((self.expressions.of_length_from(many), last))
        return found
