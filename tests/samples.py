"""Words and filters that several tests go through, and what a call tells."""

import itertools
import random

from partfilter.errors import FilterError


def words_up_to(letters, most):
    """All words of up to so many letters, in the order of point [3], the empty word first."""
    for size in range(most + 1):
        for word in itertools.product(range(letters), repeat=size):
            yield list(word)


def repeated(times):
    """A filter that takes the word of so many letters 0; its reader for 1 letter has times + 2 states."""
    return (("letter", 0),) + tuple(("behind", 0, number) for number in range(times - 1))


def some_filters(count, most, seed):
    """Filters of up to so many lines, for one seed always the same ones."""
    chosen = random.Random(seed)
    for _ in range(count):
        lines = []
        for number in range(chosen.randint(1, most)):
            kinds = ["none", "empty", "letter", "letter"]
            if number:
                kinds += ["or", "not", "behind"] * 3
            kind = chosen.choice(kinds)
            if kind == "letter":
                lines.append((kind, chosen.randrange(3)))
            else:
                many = {"none": 0, "empty": 0, "not": 1}.get(kind, 2)
                lines.append((kind, *[chosen.randrange(number) for _ in range(many)]))
        yield tuple(lines)


def told(call, *arguments):
    """What a call returns, or the class of the error that it raises."""
    try:
        return call(*arguments)
    except FilterError as error:
        return type(error)
