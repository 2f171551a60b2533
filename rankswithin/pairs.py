"""Pairs of items that can be exchanged in some good ranking, and the evidence for it."""

from rankswithin.checking import check, is_integer, is_item, is_tagged
from rankswithin.contradictions import find_contradiction, is_contradiction
from rankswithin.errors import NotPossible
from rankswithin.exchanges import pairs_of, swapped
from rankswithin.formed import renamed_constraint
from rankswithin.problems import is_good, is_good_ranking, is_problem
from rankswithin.rankings import ranking_by_deadlines


def is_between(constraint, one, other):
    """Tell whether the constraint says which one of the two items is ahead."""
    return constraint in (("ahead", one, other), ("ahead", other, one))


def index_between(problem, one, other):
    """Return the index of the first constraint that says which one of the two items is ahead, or None."""
    found = [index for index, constraint in enumerate(problem[1]) if is_between(constraint, one, other)]
    return found[0] if found else None


def merged_problem(problem, one, other):
    """Return the merged problem of two items between which no "ahead" constraint stands."""
    items, constraints = problem
    order = swapped(tuple(range(items)), one, other)
    turned = [(before, renamed_constraint(before, order)) for before in constraints]
    # No constraint has both items; one with neither of them is the same again, and not put in twice.
    return items, constraints + tuple([after for before, after in turned if after != before])


def ranking_for_both(problem, one, other):
    """Return a ranking that is good as it is and when the two items are exchanged, or None if there is none."""
    if index_between(problem, one, other) is not None:
        return None
    return ranking_by_deadlines(merged_problem(problem, one, other))


def rankings_by_pairs(problem):
    """Return for each exchangeable pair, ascending, a ranking that is good as it is and when they are exchanged."""
    found = {}
    for one, other in pairs_of(problem[0]):
        ranking = ranking_for_both(problem, one, other)
        if ranking is not None:
            found[(one, other)] = ranking
    return found


def exchangeable_pairs(problem):
    """Return the exchangeable pairs of items, ascending."""
    return list(rankings_by_pairs(problem))


def find_pair_evidence(problem, one, other):
    """Return evidence about the two items."""
    index = index_between(problem, one, other)
    if index is not None:
        return "ahead", index
    ranking = ranking_for_both(problem, one, other)
    if ranking is not None:
        return "both", ranking
    return "never", find_contradiction(merged_problem(problem, one, other))


def proves_exchangeable(problem, one, other, value):
    """Tell whether the value is evidence that the two items are exchangeable."""
    if not is_tagged(value, "both", 2) or not is_good_ranking(problem, value[1]):
        return False
    return is_good(problem, swapped(value[1], one, other))


def proves_not_exchangeable(problem, one, other, value):
    """Tell whether the value is evidence that the two items are not exchangeable."""
    constraints = problem[1]
    if is_tagged(value, "ahead", 2):
        return is_integer(value[1], 0, len(constraints) - 1) and is_between(constraints[value[1]], one, other)
    if is_tagged(value, "never", 2) and index_between(problem, one, other) is None:
        return is_contradiction(merged_problem(problem, one, other), value[1])
    return False


def check_pair(problem, one, other):
    """Raise BadValue if the first argument is not a problem, or the others not two items of it, the lesser first."""
    check(is_problem(problem), "problem")
    check(is_item(problem[0], one), "one")
    check(is_item(problem[0], other) and other > one, "other")


def merged(problem, one, other):
    """Return the constraints of the merged problem of the two items."""
    check_pair(problem, one, other)
    if index_between(problem, one, other) is not None:
        raise NotPossible("ahead")
    return merged_problem(problem, one, other)[1]


def exchangeable(problem):
    """Return the exchangeable pairs of items, each with the lesser one first."""
    check(is_problem(problem), "problem")
    return exchangeable_pairs(problem)


def components(problem):
    """Return the components of the items, by their least items."""
    check(is_problem(problem), "problem")
    # Each item is told by the least one with which it is known to be connected.
    least = list(range(problem[0]))
    for one, other in exchangeable_pairs(problem):
        low, high = sorted([least[one], least[other]])
        least = [low if item == high else item for item in least]
    groups = [[item for item in range(problem[0]) if least[item] == first] for first in range(problem[0])]
    return tuple([tuple(group) for group in groups if group])


def pair_evidence(problem, one, other):
    """Return evidence about the two items."""
    check_pair(problem, one, other)
    return find_pair_evidence(problem, one, other)


def accepts_pair(problem, one, other, value):
    """Tell whether the value is evidence about the two items."""
    check_pair(problem, one, other)
    return proves_exchangeable(problem, one, other, value) or proves_not_exchangeable(problem, one, other, value)
