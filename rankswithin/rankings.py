"""Good rankings that are found place by place, and evidence that there is one or none.

The functions without checks of their arguments also take problems with more than 12 constraints.
"""

from rankswithin.checking import are_different_items, check, is_tagged
from rankswithin.contradictions import find_contradiction, is_contradiction
from rankswithin.cycles import find_cycle
from rankswithin.problems import added, check_item, is_good, is_good_ranking, is_problem
from rankswithin.windows import earliest_places, latest_places


def item_for(place, left, earliest, latest):
    """Return the item that comes at the place by deadlines, of those that are left, or None."""
    ready = [item for item in left if earliest[item] <= place]
    # Of several with the least latest place, min takes the one that stands first: the least item.
    return min(ready, key=lambda item: latest[item], default=None)


def ranking_by_deadlines(problem):
    """Return the ranking by deadlines, or None if no ranking is good."""
    if find_cycle(problem) is not None:
        return None
    earliest, latest = earliest_places(problem), latest_places(problem)
    ranking = ()
    for place in range(1, problem[0] + 1):
        left = [one for one in range(problem[0]) if one not in ranking]
        item = item_for(place, left, earliest, latest)
        if item is None:
            return None
        ranking = ranking + (item,)
    return ranking if is_good(problem, ranking) else None


def has_ranking(problem):
    """Tell whether some ranking is good."""
    return ranking_by_deadlines(problem) is not None


def at_place(problem, item, place):
    """Return the problem in which the item also has to have the place."""
    return added(problem, ("within", item, place, place))


def places_found(problem, item):
    """Return the places that the item has in good rankings, ascending."""
    return [place for place in range(1, problem[0] + 1) if has_ranking(at_place(problem, item, place))]


def beginning_with(problem, beginning):
    """Return the problem whose good rankings are those that begin with the beginning."""
    for place, item in enumerate(beginning, start=1):
        problem = at_place(problem, item, place)
    return problem


def followers(problem, beginning):
    """Return the items that can follow the beginning, ascending."""
    begun = beginning_with(problem, beginning)
    place = len(beginning) + 1
    left = [item for item in range(problem[0]) if item not in beginning]
    return tuple(item for item in left if has_ranking(at_place(begun, item, place)))


def grown_ranking(problem, choice):
    """Return the good ranking with the follower of the index choice at each place, or None if there is none."""
    ranking = ()
    while len(ranking) < problem[0]:
        following = followers(problem, ranking)
        if not following:
            return None
        ranking = ranking + (following[choice],)
    return ranking


def by_deadlines(problem):
    """Return the ranking by deadlines, or None if no ranking is good."""
    check(is_problem(problem), "problem")
    return ranking_by_deadlines(problem)


def first_ranking(problem):
    """Return the first good ranking, or None if there is none."""
    check(is_problem(problem), "problem")
    return grown_ranking(problem, 0)


def last_ranking(problem):
    """Return the last good ranking, or None if there is none."""
    check(is_problem(problem), "problem")
    return grown_ranking(problem, -1)


def can_follow(problem, beginning):
    """Return the items that can follow the beginning in a good ranking."""
    check(is_problem(problem), "problem")
    check(are_different_items(problem[0], beginning), "beginning")
    return followers(problem, beginning)


def range_of(problem, item):
    """Return the least and the greatest place of the item in good rankings, or None if no ranking is good."""
    check_item(problem, item)
    found = places_found(problem, item)
    return (found[0], found[-1]) if found else None


def rankings_evidence(problem):
    """Return the told evidence: the ranking by deadlines, or the told contradiction."""
    check(is_problem(problem), "problem")
    ranking = ranking_by_deadlines(problem)
    if ranking is None:
        return "contradiction", find_contradiction(problem)
    return "ranking", ranking


def accepts_rankings(problem, value):
    """Tell whether the value is evidence that some ranking is good, or that none is."""
    check(is_problem(problem), "problem")
    if is_tagged(value, "ranking", 2):
        return is_good_ranking(problem, value[1])
    if is_tagged(value, "contradiction", 2):
        return is_contradiction(problem, value[1])
    return False
