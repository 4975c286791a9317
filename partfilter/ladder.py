"""Which kinds of tests tell two sets of values apart (point 38)."""

from partfilter.ends import rounds_of
from partfilter.lengths import lengths_apart
from partfilter.semigroups import has_common_word
from partfilter.separating import meeting


def ladder(semigroup, first, second):
    """Whether some threshold and modulus, some size, and some filter tells two sets apart."""
    by_filter = meeting(semigroup, [first, second]) is None
    by_length = lengths_apart(semigroup, first, second)[0] == "apart"
    # Without a common word and without rounds, some size tells the sets apart (point 37).
    by_ends = not has_common_word(semigroup, first, second) and rounds_of(semigroup, first, second) is None
    return by_length, by_ends, by_filter
