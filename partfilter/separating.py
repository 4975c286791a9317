"""Sets of values told apart by a filter, or met by a set of the family (points 17, 25 and 26)."""

from partfilter.checks import have_common
from partfilter.classes import classes_of
from partfilter.expressions import Expressions
from partfilter.family import family_of
from partfilter.semigroups import check_sets


def meeting(semigroup, sets):
    """The first set of the family that meets all of some sets, with its number, or None."""
    check_sets(semigroup, sets)
    for number, (_, values) in enumerate(family_of(semigroup)):
        if all([have_common(values, one) for one in sets]):
            return number, values
    return None


def separate(semigroup, first, second):
    """A filter that tells two sets apart, or the first set of the family that meets both."""
    met = meeting(semigroup, [first, second])
    if met is not None:
        number, values = met
        return "met", number, values
    expressions = Expressions()
    chosen = [
        expressions.number_of_filter(lines)
        for lines, bound in classes_of(semigroup)
        if not have_common(bound, second)
    ]
    return "filter", expressions.lines_of(expressions.any_of(chosen))
