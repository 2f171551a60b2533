"""Problems that are formed from a problem: tidied, mirrored, renamed, and its parts."""

from rankswithin.checking import are_items, check, is_ascending
from rankswithin.problems import is_problem, is_ranking


def with_word(problem, word):
    """Return the constraints of one word in order, each once."""
    return tuple(sorted({constraint for constraint in problem[1] if constraint[0] == word}))


def mirrored_constraint(items, constraint):
    """Return the constraint of the mirrored problem in the place of this one."""
    if constraint[0] == "within":
        _, item, low, high = constraint
        return "within", item, items + 1 - high, items + 1 - low
    _, one, other = constraint
    return "ahead", other, one


def renamed_constraint(constraint, order):
    """Return the constraint with each item replaced by the one of the order."""
    if constraint[0] == "within":
        _, item, low, high = constraint
        return "within", order[item], low, high
    _, one, other = constraint
    return "ahead", order[one], order[other]


def part_with(problem, indexes):
    """Return the problem with the constraints of these indexes alone."""
    items, constraints = problem
    return items, tuple([constraints[index] for index in indexes])


def check_indexes(problem, indexes):
    """Raise BadValue if the first argument is not a problem, or the second one not ascending indexes of it."""
    check(is_problem(problem), "problem")
    # Indexes have the form of items: the integers from 0 on, as many as there are constraints.
    check(are_items(len(problem[1]), indexes) and is_ascending(indexes), "indexes")


def tidied(problem):
    """Return the problem with its constraints in order, each once."""
    check(is_problem(problem), "problem")
    return problem[0], with_word(problem, "within") + with_word(problem, "ahead")


def mirrored(problem):
    """Return the problem with all places counted from the end."""
    check(is_problem(problem), "problem")
    items, constraints = problem
    return items, tuple(mirrored_constraint(items, constraint) for constraint in constraints)


def renamed(problem, order):
    """Return the problem with each item replaced by the one of the order with its index."""
    check(is_problem(problem), "problem")
    # An order has the same form as a ranking: each item once.
    check(is_ranking(problem[0], order), "order")
    return problem[0], tuple(renamed_constraint(constraint, order) for constraint in problem[1])


def part(problem, indexes):
    """Return the problem with the constraints of these indexes alone."""
    check_indexes(problem, indexes)
    return part_with(problem, indexes)
