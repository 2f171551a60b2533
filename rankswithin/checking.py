"""What the other files ask of single values, of whatever kind these are."""

from rankswithin.errors import BadValue

MOST_BOUND = 20


def check(right, name):
    """Raise BadValue with the name of the argument if the argument is not right."""
    if not right:
        raise BadValue(name)


def is_integer(value, least, most):
    """Tell whether the value is an integer from least to most."""
    # For Python, True and False are integers; here they never are.
    return isinstance(value, int) and not isinstance(value, bool) and least <= value <= most


def is_item(items, value):
    """Tell whether the value is one of so many items."""
    return is_integer(value, 0, items - 1)


def is_bound(value):
    """Tell whether the value can be the low or the high place of evidence."""
    return is_integer(value, -MOST_BOUND, MOST_BOUND)


def is_tagged(value, word, size):
    """Tell whether the value is a tuple with so many items, of which the first one is the word."""
    # The kind of the first item comes before its value: nothing else than strings is compared.
    return isinstance(value, tuple) and len(value) == size and isinstance(value[0], str) and value[0] == word


def are_items(items, value):
    """Tell whether the value is a tuple of some of so many items, also of the same one twice."""
    return isinstance(value, tuple) and all(is_item(items, item) for item in value)


def are_different_items(items, value):
    """Tell whether the value is a tuple of different ones of so many items."""
    return are_items(items, value) and len(set(value)) == len(value)


def is_ascending(value):
    """Tell whether each integer of the tuple is less than the next one."""
    return all([one < other for one, other in zip(value, value[1:])])
