"""Verdicts: what a problem says of a constraint, and the evidence for it.

The functions without checks of their arguments also take problems with more than 12 constraints.
"""

from rankswithin.checking import is_tagged
from rankswithin.contradictions import find_contradiction, is_contradiction
from rankswithin.problems import added, check_constraint, holds, is_good_ranking
from rankswithin.rankings import has_ranking, ranking_by_deadlines


def negated(items, constraint):
    """Return the negation of the constraint for so many items."""
    if constraint[0] == "ahead":
        _, one, other = constraint
        return (("ahead", other, one),)
    _, item, low, high = constraint
    below = (("within", item, 1, low - 1),) if low > 1 else ()
    above = (("within", item, high + 1, items),) if high < items else ()
    return below + above


def denials(problem, constraint):
    """Return the problems, one for each constraint of the negation, in which the constraint does not hold."""
    return [added(problem, one) for one in negated(problem[0], constraint)]


def find_verdict(problem, constraint):
    """Return the verdict on the constraint."""
    if not has_ranking(problem):
        return "none"
    if not any([has_ranking(denial) for denial in denials(problem, constraint)]):
        return "certain"
    return "open" if has_ranking(added(problem, constraint)) else "impossible"


def find_evidence(problem, constraint):
    """Return the told evidence of the verdict on the constraint."""
    word = find_verdict(problem, constraint)
    if word == "none":
        return "none", find_contradiction(problem)
    if word == "certain":
        found = tuple([find_contradiction(denial) for denial in denials(problem, constraint)])
        return "certain", ranking_by_deadlines(problem), found
    if word == "impossible":
        return "impossible", ranking_by_deadlines(problem), find_contradiction(added(problem, constraint))
    others = [ranking_by_deadlines(denial) for denial in denials(problem, constraint) if has_ranking(denial)]
    return "open", ranking_by_deadlines(added(problem, constraint)), others[0]


def contradict_each(problems, value):
    """Tell whether the value has a contradiction for each of the problems, in their sequence."""
    if not isinstance(value, tuple) or len(value) != len(problems):
        return False
    return all([is_contradiction(problem, one) for problem, one in zip(problems, value)])


def are_apart(problem, constraint, one, other):
    """Tell whether both are good rankings, of which the first one alone satisfies the constraint."""
    if not is_good_ranking(problem, one) or not is_good_ranking(problem, other):
        return False
    return holds(constraint, one) and not holds(constraint, other)


def is_verdict(problem, constraint, value):
    """Tell whether the value is evidence of a verdict on the constraint."""
    if is_tagged(value, "none", 2):
        return is_contradiction(problem, value[1])
    if is_tagged(value, "certain", 3):
        return is_good_ranking(problem, value[1]) and contradict_each(denials(problem, constraint), value[2])
    if is_tagged(value, "impossible", 3):
        return is_good_ranking(problem, value[1]) and is_contradiction(added(problem, constraint), value[2])
    if is_tagged(value, "open", 3):
        return are_apart(problem, constraint, value[1], value[2])
    return False


def verdict(problem, constraint):
    """Return the verdict on the constraint."""
    check_constraint(problem, constraint)
    return find_verdict(problem, constraint)


def verdict_evidence(problem, constraint):
    """Return the told evidence of the verdict on the constraint."""
    check_constraint(problem, constraint)
    return find_evidence(problem, constraint)


def accepts_verdict(problem, constraint, value):
    """Tell whether the value is evidence of a verdict on the constraint."""
    check_constraint(problem, constraint)
    return is_verdict(problem, constraint, value)


def negation(problem, constraint):
    """Return the constraints of which a ranking satisfies one exactly if it does not satisfy this one."""
    check_constraint(problem, constraint)
    return negated(problem[0], constraint)
