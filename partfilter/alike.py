"""Words that are alike at a depth (points 12 and 14)."""

from partfilter.errors import WordTooLong

MOST_WORD = 40


def are_alike(one, two, depth):
    """Whether two words of at most 40 letters are alike at a depth."""
    if max(len(one), len(two)) > MOST_WORD:
        raise WordTooLong("more letters than are_alike works for")
    # Being alike sorts the parts of both words into kinds, so each part needs one
    # look at its places for each depth, instead of one look for each other part.
    first = kinds_at_the_start(one)
    second = kinds_at_the_start(two)
    for _ in range(depth):
        numbers = {}
        first = kinds_one_deeper(one, first, numbers)
        second = kinds_one_deeper(two, second, numbers)
    return first[(0, len(one))] == second[(0, len(two))]


def parts_of_word(word):
    """The parts of a word, each by its start and its end."""
    size = len(word)
    return [(start, end) for start in range(size + 1) for end in range(start, size + 1)]


def kinds_at_the_start(word):
    """For each part of a word its kind at depth 0: the same for all."""
    return {part: 0 for part in parts_of_word(word)}


def kinds_one_deeper(word, kinds, numbers):
    """For each part of a word its kind one depth deeper, by its places; numbers gets new ones."""
    found = {}
    for part in parts_of_word(word):
        places = places_of(word, part, kinds)
        found[part] = numbers.setdefault(places, len(numbers))
    return found


def places_of(word, part, kinds):
    """The different places of a part: the letter, the kind ahead of it, the kind behind it."""
    start, end = part
    return tuple(sorted({
        (word[at], kinds[(start, at)], kinds[(at + 1, end)])
        for at in range(start, end)
    }))


def far(depth):
    """How often a word is repeated from where on once more makes no difference at a depth."""
    number = 0
    for _ in range(depth):
        number = 2 * number + 1
    return number
