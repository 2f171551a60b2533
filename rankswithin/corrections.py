"""Corrections: constraints without which some ranking is good, of which none can be put back."""

from rankswithin.conflicts import check_few, find_conflicts, least_sets, without
from rankswithin.contradictions import find_contradiction
from rankswithin.errors import NotPossible
from rankswithin.formed import check_indexes, part_with
from rankswithin.problems import is_good_ranking
from rankswithin.rankings import has_ranking, ranking_by_deadlines
from rankswithin.verdicts import contradict_each


def part_left(problem, indexes):
    """Return the part with all constraints but these."""
    return part_with(problem, [index for index in range(len(problem[1])) if index not in indexes])


def parts_with_one_back(problem, indexes):
    """Return for each of the indexes the part with this constraint and all that are none of these."""
    return [part_left(problem, without(indexes, index)) for index in indexes]


def find_corrections(problem):
    """Return the corrections, ascending."""
    return least_sets(len(problem[1]), lambda chosen: has_ranking(part_left(problem, chosen)))


def is_correction(problem, indexes):
    """Tell whether the constraints are a correction."""
    if not has_ranking(part_left(problem, indexes)):
        return False
    return not any([has_ranking(more) for more in parts_with_one_back(problem, indexes)])


def corrections(problem):
    """Return all corrections, ascending."""
    check_few(problem)
    return find_corrections(problem)


def least_correction(problem):
    """Return the first one of the corrections with the fewest constraints."""
    check_few(problem)
    # Of several with the least key, min takes the one that stands first.
    return min(find_corrections(problem), key=len)


def blameless(problem):
    """Return the indexes of the constraints that are in no conflict."""
    check_few(problem)
    blamed = [index for conflict in find_conflicts(problem) for index in conflict]
    return tuple([index for index in range(len(problem[1])) if index not in blamed])


def correction_evidence(problem, indexes):
    """Return evidence that the constraints are a correction."""
    check_indexes(problem, indexes)
    if not is_correction(problem, indexes):
        raise NotPossible("correction")
    contradictions = [find_contradiction(more) for more in parts_with_one_back(problem, indexes)]
    return ranking_by_deadlines(part_left(problem, indexes)), tuple(contradictions)


def accepts_correction(problem, indexes, value):
    """Tell whether the value is evidence that the constraints are a correction."""
    check_indexes(problem, indexes)
    if not isinstance(value, tuple) or len(value) != 2:
        return False
    if not is_good_ranking(part_left(problem, indexes), value[0]):
        return False
    return contradict_each(parts_with_one_back(problem, indexes), value[1])
