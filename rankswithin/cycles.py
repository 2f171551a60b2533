"""Chains of items, each ahead of the next one by a constraint, and cycles among them.

The functions without checks of their arguments also take problems with more than 12 constraints.
"""

from rankswithin.checking import are_items, check
from rankswithin.errors import NotPossible
from rankswithin.problems import is_problem


def is_chain(problem, value):
    """Tell whether the value is a chain of the problem."""
    items, constraints = problem
    if not are_items(items, value) or len(value) == 0:
        return False
    return all([("ahead", one, other) in constraints for one, other in zip(value, value[1:])])


def is_cycle(problem, value):
    """Tell whether the value is a cycle of the problem."""
    return is_chain(problem, value) and len(value) > 1 and value[0] == value[-1]


def ahead_of(problem, item):
    """Return the items that are ahead of the item by a constraint, ascending."""
    return [one for one in range(problem[0]) if ("ahead", one, item) in problem[1]]


def behind(problem, item):
    """Return the items that the item is ahead of by a constraint, ascending."""
    return [other for other in range(problem[0]) if ("ahead", item, other) in problem[1]]


def find_cycle(problem):
    """Return the told cycle, or None if the problem is not cyclic."""
    following = [behind(problem, item) for item in range(problem[0])]
    chains = [(item,) for item in range(problem[0])]
    # As long as no chain has closed, none has an item twice: so the chains come to an end.
    while chains:
        # Chains in order, with ascending items put behind them, are in order again.
        chains = [chain + (item,) for chain in chains for item in following[chain[-1]]]
        closed = [chain for chain in chains if chain[0] == chain[-1]]
        if closed:
            return closed[0]
    return None


def refuse_cyclic(problem):
    """Raise NotPossible if the problem is cyclic."""
    if find_cycle(problem) is not None:
        raise NotPossible("cyclic")


def told_cycle(problem):
    """Return the first one of the cycles with the fewest items, or None if there is no cycle."""
    check(is_problem(problem), "problem")
    return find_cycle(problem)


def accepts_cycle(problem, value):
    """Tell whether the value is a cycle of the problem."""
    check(is_problem(problem), "problem")
    return is_cycle(problem, value)
