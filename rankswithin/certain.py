"""What is sure of the items in all good rankings: their places, and which are ahead of which."""

from rankswithin.checking import check
from rankswithin.problems import check_item, is_problem
from rankswithin.rankings import places_found
from rankswithin.verdicts import find_verdict


def pairs_ahead(problem):
    """Return the pairs of items of which the one is certainly ahead of the other one, ascending."""
    pairs = [(one, other) for one in range(problem[0]) for other in range(problem[0]) if one != other]
    return [pair for pair in pairs if find_verdict(problem, ("ahead",) + pair) == "certain"]


def without_between(items, ahead):
    """Return the pairs with no item between the two of them, by the pairs of what is ahead of what."""
    found = []
    for one, other in ahead:
        between = [item for item in range(items) if (one, item) in ahead and (item, other) in ahead]
        if not between:
            found.append((one, other))
    return found


def places(problem, item):
    """Return the places that the item has in good rankings."""
    check_item(problem, item)
    return tuple(places_found(problem, item))


def certainly_ahead(problem):
    """Return all pairs of items of which the one is ahead of the other one in all good rankings."""
    check(is_problem(problem), "problem")
    return pairs_ahead(problem)


def certain_order(problem):
    """Return the pairs of the certain order: those from which all certain ones follow."""
    check(is_problem(problem), "problem")
    return without_between(problem[0], pairs_ahead(problem))
