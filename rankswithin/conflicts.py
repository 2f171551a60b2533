"""Conflicts: constraints that contradict one another, of which none can be spared for that."""

from itertools import combinations

from rankswithin.checking import check
from rankswithin.contradictions import find_contradiction, is_contradiction
from rankswithin.errors import NotPossible, TooLarge
from rankswithin.formed import check_indexes, part_with
from rankswithin.problems import is_good_ranking, is_problem
from rankswithin.rankings import has_ranking, ranking_by_deadlines

MOST_SEARCHED = 10


def without(indexes, index):
    """Return the indexes but this one."""
    return tuple([other for other in indexes if other != index])


def least_sets(many, is_enough):
    """Return those sets of so many indexes, ascending, that are enough, and with one index fewer are not.

    With a set that is enough, each set that has all of its indexes has to be enough.
    """
    enough = {}
    found = []
    for size in range(many + 1):
        for chosen in combinations(range(many), size):
            has_spare = any([enough[without(chosen, index)] for index in chosen])
            # What has an index to spare is enough, and is not looked at again.
            enough[chosen] = has_spare or is_enough(chosen)
            if enough[chosen] and not has_spare:
                found.append(chosen)
    return sorted(found)


def parts_without_one(problem, indexes):
    """Return for each of the indexes the part with the others of them."""
    return [part_with(problem, without(indexes, index)) for index in indexes]


def find_conflicts(problem):
    """Return the conflicts, ascending."""
    return least_sets(len(problem[1]), lambda chosen: not has_ranking(part_with(problem, chosen)))


def find_conflict(problem):
    """Return the told conflict of a problem without a good ranking."""
    left = tuple(range(len(problem[1])))
    for index in range(len(problem[1])):
        fewer = without(left, index)
        if not has_ranking(part_with(problem, fewer)):
            left = fewer
    return left


def is_conflict(problem, indexes):
    """Tell whether the constraints are a conflict."""
    if has_ranking(part_with(problem, indexes)):
        return False
    return all([has_ranking(fewer) for fewer in parts_without_one(problem, indexes)])


def is_ranking_of_each(problems, value):
    """Tell whether the value has a good ranking for each of the problems, in their sequence."""
    if not isinstance(value, tuple) or len(value) != len(problems):
        return False
    return all([is_good_ranking(problem, one) for problem, one in zip(problems, value)])


def check_few(problem):
    """Raise an error if the argument is not a problem, or has too many constraints to look at all of its parts."""
    check(is_problem(problem), "problem")
    if len(problem[1]) > MOST_SEARCHED:
        raise TooLarge("constraints")


def conflicts(problem):
    """Return all conflicts, ascending."""
    check_few(problem)
    return find_conflicts(problem)


def told_conflict(problem):
    """Return the told conflict, or None if some ranking is good."""
    check(is_problem(problem), "problem")
    return None if has_ranking(problem) else find_conflict(problem)


def conflict_evidence(problem, indexes):
    """Return evidence that the constraints are a conflict."""
    check_indexes(problem, indexes)
    if not is_conflict(problem, indexes):
        raise NotPossible("conflict")
    rankings = [ranking_by_deadlines(fewer) for fewer in parts_without_one(problem, indexes)]
    return find_contradiction(part_with(problem, indexes)), tuple(rankings)


def accepts_conflict(problem, indexes, value):
    """Tell whether the value is evidence that the constraints are a conflict."""
    check_indexes(problem, indexes)
    if not isinstance(value, tuple) or len(value) != 2:
        return False
    if not is_contradiction(part_with(problem, indexes), value[0]):
        return False
    return is_ranking_of_each(parts_without_one(problem, indexes), value[1])
