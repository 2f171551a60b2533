"""Contradictions: cycles, and intervals for which too many items are due.

The functions without checks of their arguments also take problems with more than 12 constraints.
"""

from rankswithin.checking import check, is_ascending, is_bound, is_integer, is_item, is_tagged
from rankswithin.cycles import find_cycle, is_cycle, refuse_cyclic
from rankswithin.problems import is_problem
from rankswithin.windows import lower_chain, proves_high, proves_low, upper_chain, windows_of


def places_between(low, high):
    """Return the number of the places from low to high."""
    return max(0, high - low + 1)


def intervals(items):
    """Return all intervals of so many items, ascending."""
    return [(low, high) for low in range(1, items + 2) for high in range(items + 1)]


def due_within(windows, low, high):
    """Return the items that are due within the interval, by their windows."""
    return tuple([item for item, (earliest, latest) in enumerate(windows) if low <= earliest and latest <= high])


def find_overfull(problem):
    """Return the told contradiction of a problem that is not cyclic, or None if no interval is overfull."""
    windows = windows_of(problem)
    for low, high in intervals(problem[0]):
        inside = due_within(windows, low, high)
        if len(inside) > places_between(low, high):
            rows = tuple((item, lower_chain(problem, item), upper_chain(problem, item)) for item in inside)
            return "overfull", low, high, rows
    return None


def find_contradiction(problem):
    """Return the told contradiction, or None if some ranking is good."""
    chain = find_cycle(problem)
    if chain is not None:
        return "cycle", chain
    return find_overfull(problem)


def is_row(problem, low, high, row):
    """Tell whether the row tells, with evidence, of an item that has a place from low to high."""
    if not isinstance(row, tuple) or len(row) != 3 or not is_item(problem[0], row[0]):
        return False
    return proves_low(problem, row[0], low, row[1]) and proves_high(problem, row[0], high, row[2])


def is_overfull(problem, low, high, rows):
    """Tell whether the rows tell of more items than there are places from low to high."""
    if not is_bound(low) or not is_bound(high) or not isinstance(rows, tuple):
        return False
    if len(rows) <= places_between(low, high) or not all(is_row(problem, low, high, row) for row in rows):
        return False
    return is_ascending([row[0] for row in rows])


def is_contradiction(problem, value):
    """Tell whether the value is a contradiction of the problem."""
    if is_tagged(value, "cycle", 2):
        return is_cycle(problem, value[1])
    if is_tagged(value, "overfull", 4):
        return is_overfull(problem, value[1], value[2], value[3])
    return False


def due(problem, low, high):
    """Return the items that are due within the interval."""
    check(is_problem(problem), "problem")
    check(is_integer(low, 1, problem[0] + 1), "low")
    check(is_integer(high, 0, problem[0]), "high")
    refuse_cyclic(problem)
    return due_within(windows_of(problem), low, high)


def tight(problem):
    """Return the tight intervals, each with the items that are due within it."""
    check(is_problem(problem), "problem")
    refuse_cyclic(problem)
    windows = windows_of(problem)
    found = []
    for low, high in intervals(problem[0]):
        inside = due_within(windows, low, high)
        if len(inside) == places_between(low, high) > 0:
            found.append((low, high, inside))
    return tuple(found)


def contradiction(problem):
    """Return the told contradiction, or None if some ranking is good."""
    check(is_problem(problem), "problem")
    return find_contradiction(problem)


def accepts_contradiction(problem, value):
    """Tell whether the value is a contradiction of the problem."""
    check(is_problem(problem), "problem")
    return is_contradiction(problem, value)
