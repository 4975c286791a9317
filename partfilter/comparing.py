"""Questions about filters: what they take, where they differ, their least readers (44 and 45)."""

from partfilter.readers import reader_of
from partfilter.walking import first_word_to, reached, step_of_both


def first_taken(lines, letters):
    """The first word of so many letters that a filter takes, or None."""
    rows, taking = reader_of(lines, letters)
    return first_word_to(
        0,
        lambda state, letter: rows[state][letter],
        lambda state: taking[state],
        letters,
    )


def first_difference(one, two, letters):
    """The first word that one of two filters takes and the other one does not, or None."""
    one_rows, one_taking = reader_of(one, letters)
    two_rows, two_taking = reader_of(two, letters)

    def differs(pair):
        here, there = pair
        return one_taking[here] != two_taking[there]

    return first_word_to((0, 0), step_of_both(one_rows, two_rows), differs, letters)


def count_taken(lines, letters, size):
    """How many words of exactly this size a filter takes."""
    rows, taking = reader_of(lines, letters)
    # For each state the number of words that are taken from there on, one letter longer each time.
    counts = [1 if taken else 0 for taken in taking]
    for _ in range(size):
        counts = [sum([counts[to] for to in row]) for row in rows]
    return counts[0]


def least_reader(lines, letters):
    """The reader with the least number of states that takes what a filter takes."""
    rows, taking = reader_of(lines, letters)
    kinds = kinds_of_states(rows, taking)
    # Any state of a kind stands for all of them: all lead to the same kinds.
    chosen = {kind: state for state, kind in enumerate(kinds)}
    order, least = reached(
        kinds[0],
        lambda kind, letter: kinds[rows[chosen[kind]][letter]],
        letters,
    )
    return least, [taking[chosen[kind]] for kind in order]


def kinds_of_states(rows, taking):
    """For each state the number of its kind: states from which the same words are taken."""
    kinds = numbered(taking)
    while True:
        finer = numbered([
            tuple([kind] + [kinds[to] for to in row])
            for kind, row in zip(kinds, rows)
        ])
        # Both are numbered in the order of the states, so no new kind means the same numbers.
        if finer == kinds:
            return kinds
        kinds = finer


def numbered(keys):
    """For each key the number of different keys that came ahead of its first place."""
    numbers = {}
    return [numbers.setdefault(key, len(numbers)) for key in keys]
