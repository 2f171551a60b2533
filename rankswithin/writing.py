"""The texts of problems and rankings."""

from rankswithin.checking import check
from rankswithin.naming import are_names
from rankswithin.problems import is_problem, is_ranking


def constraint_text(names, constraint):
    """Return the text of the constraint."""
    if constraint[0] == "within":
        _, item, low, high = constraint
        return f"{names[item]} {low}..{high}"
    _, one, other = constraint
    return f"{names[one]} < {names[other]}"


def problem_text(names, problem):
    """Return the text of the problem."""
    check(are_names(names), "names")
    check(is_problem(problem) and problem[0] == len(names), "problem")
    return "; ".join([constraint_text(names, constraint) for constraint in problem[1]])


def ranking_text(names, ranking):
    """Return the text of the ranking."""
    check(are_names(names), "names")
    check(is_ranking(len(names), ranking), "ranking")
    return " ".join([names[item] for item in ranking])
