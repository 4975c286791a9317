"""States that words lead to, in the order in which they are reached."""

from partfilter.errors import TooManyStates

MOST_STATES = 100


def reached(first, step, letters):
    """The states that are reached from the first one, in order, and a row of numbers for each.

    step(state, letter) is the state to which a letter leads.
    """
    numbers = {first: 0}
    states = [first]
    rows = []
    while len(rows) < len(states):
        state = states[len(rows)]
        row = []
        for letter in range(letters):
            to = step(state, letter)
            if to not in numbers:
                if len(states) == MOST_STATES:
                    raise TooManyStates("more states than a reader may have")
                numbers[to] = len(states)
                states.append(to)
            row.append(numbers[to])
        rows.append(row)
    return states, rows


def step_of_both(one_rows, two_rows):
    """The step from a pair of states to another one, each by its own rows."""
    def step(pair, letter):
        here, there = pair
        return one_rows[here][letter], two_rows[there][letter]

    return step


def first_word_to(first, step, is_wanted, letters):
    """The first word that leads from the first state to one that is wanted, or None."""
    # States are met in the order of the first words that lead to them,
    # so the first one that is wanted has the first word of all.
    words = {first: []}
    states = [first]
    at = 0
    while at < len(states):
        state = states[at]
        if is_wanted(state):
            return words[state]
        for letter in range(letters):
            to = step(state, letter)
            if to not in words:
                words[to] = words[state] + [letter]
                states.append(to)
        at += 1
    return None
