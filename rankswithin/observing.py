"""Which items must be seen so that the places of others, or of all, are known."""

from itertools import combinations

from rankswithin.checking import are_items, check, is_ascending, is_item, is_tagged
from rankswithin.exchanges import pairs_of, swapped
from rankswithin.pairs import exchangeable_pairs, find_pair_evidence, proves_not_exchangeable, rankings_by_pairs
from rankswithin.problems import is_good_ranking, is_problem, place_of


def sets_of(items, size):
    """Return the sets of so many items that have the size, as ascending tuples, in order."""
    return list(combinations(range(items), size))


def sets_before(items, seen):
    """Return the sets with one item less than are seen, and then those with as many that come before, in order."""
    if not seen:
        return []
    return sets_of(items, len(seen) - 1) + [one for one in sets_of(items, len(seen)) if one < seen]


def unseen_pairs(problem, seen):
    """Return the pairs of items that are both not seen, ascending."""
    return [(one, other) for one, other in pairs_of(problem[0]) if one not in seen and other not in seen]


def each_has_seen(pairs, seen):
    """Tell whether of each of the pairs one item is seen."""
    return all([one in seen or other in seen for one, other in pairs])


def find_smallest(problem):
    """Return the smallest seen items that tell all."""
    items = problem[0]
    pairs = exchangeable_pairs(problem)
    # All items but one tell all: so some set with fewer items than there are is found.
    found = [seen for size in range(items) for seen in sets_of(items, size) if each_has_seen(pairs, seen)]
    return found[0]


def two_rankings(shared, seen):
    """Return two good rankings that differ in two unseen items, by a ranking for each exchangeable pair, or None."""
    for (one, other), ranking in shared.items():
        if one not in seen and other not in seen:
            return ranking, swapped(ranking, one, other)
    return None


def find_nevers(problem, seen):
    """Return evidence about each two unseen items, for seen items that tell all."""
    return tuple([find_pair_evidence(problem, one, other) for one, other in unseen_pairs(problem, seen)])


def are_nevers(problem, seen, value):
    """Tell whether the value has evidence that each two unseen items are not exchangeable."""
    pairs = unseen_pairs(problem, seen)
    if not isinstance(value, tuple) or len(value) != len(pairs):
        return False
    return all([proves_not_exchangeable(problem, one, other, part) for (one, other), part in zip(pairs, value)])


def are_open(problem, seen, first, second):
    """Tell whether these are two different good rankings in which each seen item has the same place."""
    if not is_good_ranking(problem, first) or not is_good_ranking(problem, second):
        return False
    return first != second and all([place_of(first, item) == place_of(second, item) for item in seen])


def are_all_open(problem, sets, value):
    """Tell whether the value has, for each of the sets as seen items, two rankings by which it does not tell all."""
    if not isinstance(value, tuple) or len(value) != len(sets):
        return False
    if not all([isinstance(pair, tuple) and len(pair) == 2 for pair in value]):
        return False
    return all([are_open(problem, seen, pair[0], pair[1]) for seen, pair in zip(sets, value)])


def check_seen(problem, seen):
    """Raise BadValue if the first argument is not a problem, or the second one not some items of it, ascending."""
    check(is_problem(problem), "problem")
    check(are_items(problem[0], seen) and is_ascending(seen), "seen")


def tells_all(problem, seen):
    """Tell whether any two good rankings in which each seen item has the same place are equal."""
    check_seen(problem, seen)
    return each_has_seen(exchangeable_pairs(problem), seen)


def tells_item(problem, seen, item):
    """Tell whether the item has the same place in any two good rankings in which each seen item has."""
    check_seen(problem, seen)
    check(is_item(problem[0], item), "item")
    return each_has_seen([pair for pair in exchangeable_pairs(problem) if item in pair], seen)


def smallest(problem):
    """Return the smallest seen items that tell all."""
    check(is_problem(problem), "problem")
    return find_smallest(problem)


def seen_evidence(problem, seen):
    """Return evidence that the seen items tell all, or that they do not."""
    check_seen(problem, seen)
    rankings = two_rankings(rankings_by_pairs(problem), seen)
    if rankings is None:
        return "tells", find_nevers(problem, seen)
    return "open", rankings[0], rankings[1]


def accepts_seen(problem, seen, value):
    """Tell whether the value is evidence that the seen items tell all, or that they do not."""
    check_seen(problem, seen)
    if is_tagged(value, "tells", 2):
        return are_nevers(problem, seen, value[1])
    if is_tagged(value, "open", 3):
        return are_open(problem, seen, value[1], value[2])
    return False


def smallest_evidence(problem, seen):
    """Return evidence that the seen items are the smallest that tell all, or None if they are not."""
    check_seen(problem, seen)
    if seen != find_smallest(problem):
        return None
    shared = rankings_by_pairs(problem)
    return find_nevers(problem, seen), tuple([two_rankings(shared, one) for one in sets_before(problem[0], seen)])


def accepts_smallest(problem, seen, value):
    """Tell whether the value is evidence that the seen items are the smallest that tell all."""
    check_seen(problem, seen)
    if not isinstance(value, tuple) or len(value) != 2:
        return False
    return are_nevers(problem, seen, value[0]) and are_all_open(problem, sets_before(problem[0], seen), value[1])
