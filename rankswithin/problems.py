"""Constraints, rankings and problems, and what a ranking says of a problem.

The functions without checks of their arguments also take problems with more than 12 constraints.
"""

from rankswithin.checking import are_different_items, check, is_integer, is_item, is_tagged
from rankswithin.errors import TooLarge

MOST_ITEMS = 7
MOST_CONSTRAINTS = 12


def is_constraint(items, value):
    """Tell whether the value is a constraint for so many items."""
    if is_tagged(value, "within", 4):
        return is_item(items, value[1]) and is_integer(value[2], 1, items) and is_integer(value[3], value[2], items)
    if is_tagged(value, "ahead", 3):
        return is_item(items, value[1]) and is_item(items, value[2]) and value[1] != value[2]
    return False


def is_ranking(items, value):
    """Tell whether the value is a ranking of so many items."""
    return are_different_items(items, value) and len(value) == items


def is_problem(value):
    """Tell whether the value is a problem."""
    if not isinstance(value, tuple) or len(value) != 2:
        return False
    items, constraints = value
    if not is_integer(items, 1, MOST_ITEMS) or not isinstance(constraints, tuple):
        return False
    return len(constraints) <= MOST_CONSTRAINTS and all(is_constraint(items, one) for one in constraints)


def place_of(ranking, item):
    """Return the place of the item in the ranking."""
    return ranking.index(item) + 1


def holds(constraint, ranking):
    """Tell whether the ranking satisfies the constraint."""
    if constraint[0] == "within":
        return constraint[2] <= place_of(ranking, constraint[1]) <= constraint[3]
    return place_of(ranking, constraint[1]) < place_of(ranking, constraint[2])


def is_good(problem, ranking):
    """Tell whether the ranking satisfies all constraints of the problem."""
    return all(holds(constraint, ranking) for constraint in problem[1])


def is_good_ranking(problem, value):
    """Tell whether the value is a ranking that is good for the problem."""
    return is_ranking(problem[0], value) and is_good(problem, value)


def added(problem, constraint):
    """Return the problem with one more constraint, however many it has."""
    return problem[0], problem[1] + (constraint,)


def check_item(problem, item):
    """Raise BadValue if the first argument is not a problem, or the second one not an item of it."""
    check(is_problem(problem), "problem")
    check(is_item(problem[0], item), "item")


def check_ranking(problem, ranking):
    """Raise BadValue if the first argument is not a problem, or the second one not a ranking of its items."""
    check(is_problem(problem), "problem")
    check(is_ranking(problem[0], ranking), "ranking")


def check_constraint(problem, constraint):
    """Raise BadValue if the first argument is not a problem, or the second one not a constraint for its items."""
    check(is_problem(problem), "problem")
    check(is_constraint(problem[0], constraint), "constraint")


def places(problem, ranking):
    """Return the places of the items in the ranking."""
    check_ranking(problem, ranking)
    return tuple([place_of(ranking, item) for item in range(problem[0])])


def violated(problem, ranking):
    """Return the indexes of the constraints that the ranking violates."""
    check_ranking(problem, ranking)
    return tuple([index for index, constraint in enumerate(problem[1]) if not holds(constraint, ranking)])


def satisfies(problem, ranking):
    """Tell whether the ranking is good for the problem."""
    check_ranking(problem, ranking)
    return is_good(problem, ranking)


def with_constraint(problem, constraint):
    """Return the problem with the constraint behind its own."""
    check_constraint(problem, constraint)
    if len(problem[1]) == MOST_CONSTRAINTS:
        raise TooLarge("constraints")
    return added(problem, constraint)
