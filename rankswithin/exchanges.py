"""Exchanges of two items of a ranking, and paths of them between good rankings.

The functions without checks of their arguments also take problems with more than 12 constraints.
"""

from itertools import combinations

from rankswithin.checking import are_different_items, check, is_item
from rankswithin.errors import NotPossible
from rankswithin.problems import check_ranking, is_good, is_problem, is_ranking, place_of


def pairs_of(items):
    """Return the pairs of different ones of so many items, the lesser one first, ascending."""
    return list(combinations(range(items), 2))


def swapped(ranking, one, other):
    """Return the ranking with the two items exchanged."""
    partner = {one: other, other: one}
    return tuple([partner.get(item, item) for item in ranking])


def items_to_exchange(ranking, goal):
    """Return the two items that the told path to another ranking exchanges next."""
    moves = list(enumerate([place_of(goal, item) for item in ranking], start=1))
    forward = [place for place, there in moves if there < place]
    behind = forward[0]
    leaving = [place for place, there in moves if place < behind and there != place]
    ahead = leaving[-1]
    return ranking[ahead - 1], ranking[behind - 1]


def find_path(first, second):
    """Return the told path from the first ranking to the second one."""
    path = ()
    ranking = first
    while ranking != second:
        one, other = items_to_exchange(ranking, second)
        ranking = swapped(ranking, one, other)
        path = path + ((one, other),)
    return path


def is_path(problem, first, second, value):
    """Tell whether the value is a path from the first good ranking to the second one."""
    if not isinstance(value, tuple):
        return False
    ranking = first
    for step in value:
        if not are_different_items(problem[0], step) or len(step) != 2:
            return False
        ranking = swapped(ranking, step[0], step[1])
        if not is_good(problem, ranking):
            return False
    return ranking == second


def check_two_rankings(problem, first, second):
    """Raise BadValue if the first argument is not a problem, or one of the others not a ranking of its items."""
    check(is_problem(problem), "problem")
    check(is_ranking(problem[0], first), "first")
    check(is_ranking(problem[0], second), "second")


def refuse_wrong(problem, rankings):
    """Raise NotPossible if one of the rankings is not good."""
    if not all(is_good(problem, ranking) for ranking in rankings):
        raise NotPossible("good")


def exchanged(problem, ranking, one, other):
    """Return the ranking with the two items exchanged."""
    check_ranking(problem, ranking)
    check(is_item(problem[0], one), "one")
    check(is_item(problem[0], other) and other != one, "other")
    return swapped(ranking, one, other)


def distance(problem, first, second):
    """Return how far the places of all items in the two rankings are apart, taken together."""
    check_two_rankings(problem, first, second)
    return sum([abs(place_of(first, item) - place_of(second, item)) for item in range(problem[0])])


def told_path(problem, first, second):
    """Return the told path from the first ranking to the second one."""
    check_two_rankings(problem, first, second)
    refuse_wrong(problem, (first, second))
    return find_path(first, second)


def accepts_path(problem, first, second, value):
    """Tell whether the value is a path from the first ranking to the second one."""
    check_two_rankings(problem, first, second)
    refuse_wrong(problem, (first, second))
    return is_path(problem, first, second, value)


def exchanges_in(problem, ranking):
    """Return the pairs of items with which the ranking, when they are exchanged, is good."""
    check_ranking(problem, ranking)
    refuse_wrong(problem, (ranking,))
    return [(one, other) for one, other in pairs_of(problem[0]) if is_good(problem, swapped(ranking, one, other))]
