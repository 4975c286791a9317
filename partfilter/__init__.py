"""Sets of words told apart by filters without repetition, or shown inseparable."""
