"""The names that items have in texts."""

from rankswithin.problems import MOST_ITEMS

LETTERS = "abcdefghijklmnopqrstuvwxyz"
MOST_LETTERS = 8


def is_name(value):
    """Tell whether the value is a name."""
    if not isinstance(value, str) or not 1 <= len(value) <= MOST_LETTERS:
        return False
    return all([letter in LETTERS for letter in value])


def are_names(value):
    """Tell whether the value is a tuple of different names, one for each item of a problem."""
    if not isinstance(value, tuple) or not 1 <= len(value) <= MOST_ITEMS:
        return False
    return all(is_name(one) for one in value) and len(set(value)) == len(value)
