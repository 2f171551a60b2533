"""The window of an item, and the chains that are evidence for it.

The functions without checks of their arguments also take problems with more than 12 constraints.
"""

from rankswithin.checking import check, is_bound
from rankswithin.cycles import ahead_of, behind, is_chain, refuse_cyclic
from rankswithin.problems import check_item


def given_low(problem, item):
    """Return the greatest low place of the item's bounds."""
    lows = [one[2] for one in problem[1] if one[0] == "within" and one[1] == item]
    return max(lows, default=1)


def given_high(problem, item):
    """Return the least high place of the item's bounds."""
    highs = [one[3] for one in problem[1] if one[0] == "within" and one[1] == item]
    return min(highs, default=problem[0])


def steps_of(problem):
    """Return the pairs of items of which the one is ahead of the other one by a constraint."""
    return [(one[1], one[2]) for one in problem[1] if one[0] == "ahead"]


def earliest_places(problem):
    """Return the earliest place of each item of a problem that is not cyclic."""
    found = [given_low(problem, item) for item in range(problem[0])]
    # No chain has more items than the problem; with each round chains of one step more are settled.
    for _ in range(problem[0] - 1):
        for one, other in steps_of(problem):
            found[other] = max(found[other], found[one] + 1)
    return found


def latest_places(problem):
    """Return the latest place of each item of a problem that is not cyclic."""
    found = [given_high(problem, item) for item in range(problem[0])]
    for _ in range(problem[0] - 1):
        for one, other in steps_of(problem):
            found[one] = min(found[one], found[other] - 1)
    return found


def windows_of(problem):
    """Return the window of each item of a problem that is not cyclic."""
    return list(zip(earliest_places(problem), latest_places(problem)))


def lower_chain(problem, item):
    """Return the lower chain of an item of a problem that is not cyclic."""
    earliest = earliest_places(problem)
    chain = (item,)
    while given_low(problem, chain[0]) != earliest[chain[0]]:
        before = [one for one in ahead_of(problem, chain[0]) if earliest[one] == earliest[chain[0]] - 1]
        chain = (before[0],) + chain
    return chain


def upper_chain(problem, item):
    """Return the upper chain of an item of a problem that is not cyclic."""
    latest = latest_places(problem)
    chain = (item,)
    while given_high(problem, chain[-1]) != latest[chain[-1]]:
        after = [other for other in behind(problem, chain[-1]) if latest[other] == latest[chain[-1]] + 1]
        chain = chain + (after[0],)
    return chain


def proves_low(problem, item, low, value):
    """Tell whether the value is evidence that the item has at least the place low."""
    if not is_chain(problem, value) or value[-1] != item:
        return False
    return given_low(problem, value[0]) + len(value) - 1 >= low


def proves_high(problem, item, high, value):
    """Tell whether the value is evidence that the item has at most the place high."""
    if not is_chain(problem, value) or value[0] != item:
        return False
    return given_high(problem, value[-1]) - (len(value) - 1) <= high


def window(problem, item):
    """Return the earliest and the latest place of the item."""
    check_item(problem, item)
    refuse_cyclic(problem)
    return windows_of(problem)[item]


def lower(problem, item):
    """Return the lower chain of the item."""
    check_item(problem, item)
    refuse_cyclic(problem)
    return lower_chain(problem, item)


def upper(problem, item):
    """Return the upper chain of the item."""
    check_item(problem, item)
    refuse_cyclic(problem)
    return upper_chain(problem, item)


def accepts_low(problem, item, low, value):
    """Tell whether the value is evidence that the item has at least the place low."""
    check_item(problem, item)
    check(is_bound(low), "low")
    return proves_low(problem, item, low, value)


def accepts_high(problem, item, high, value):
    """Tell whether the value is evidence that the item has at most the place high."""
    check_item(problem, item)
    check(is_bound(high), "high")
    return proves_high(problem, item, high, value)
