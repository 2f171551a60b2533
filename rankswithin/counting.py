"""How many rankings are good, and each of them by its index.

A set of items is told by an integer here, in which the bit of each of its items is set: so all sets of items
are numbered, and a set with one item more has a greater number.

The functions without checks of their arguments also take problems with more than 12 constraints.
"""

from rankswithin.checking import are_different_items, check, is_integer
from rankswithin.cycles import ahead_of
from rankswithin.errors import NotPossible
from rankswithin.problems import check_ranking, is_good, is_problem
from rankswithin.windows import given_high, given_low


def set_of(items):
    """Return the set of different items."""
    return sum([1 << item for item in items])


def items_of(chosen, items):
    """Return those of so many items that are in the set, ascending."""
    return [item for item in range(items) if (chosen >> item) & 1 == 1]


def needs_of(problem):
    """Return for each item the bounds of its place, and the set of the items that have to be ahead of it."""
    items = range(problem[0])
    return [(given_low(problem, item), given_high(problem, item), set_of(ahead_of(problem, item))) for item in items]


def can_come(need, before, place):
    """Tell whether an item with this need can have the place if those before it are the items of the set."""
    low, high, ahead = need
    return low <= place <= high and (ahead & before) == ahead


def counts_of(needs):
    """Return for each set in how many ways the other items can come behind it."""
    items = len(needs)
    full = (1 << items) - 1
    counts = [0] * full + [1]
    # What comes behind a set is counted by the sets with one item more: their numbers are greater.
    for before in range(full - 1, -1, -1):
        inside = items_of(before, items)
        place = len(inside) + 1
        coming = [item for item in range(items) if item not in inside and can_come(needs[item], before, place)]
        counts[before] = sum([counts[before | (1 << item)] for item in coming])
    return counts


def count_all(problem):
    """Return the number of the good rankings."""
    return counts_of(needs_of(problem))[0]


def count_begun(problem, beginning):
    """Return the number of the good rankings that begin with the beginning."""
    needs = needs_of(problem)
    for at, item in enumerate(beginning):
        if not can_come(needs[item], set_of(beginning[:at]), at + 1):
            return 0
    return counts_of(needs)[set_of(beginning)]


def continued(needs, counts, beginning):
    """Return pairs of each item that can come behind the beginning, and how many good rankings begin so."""
    before, place = set_of(beginning), len(beginning) + 1
    coming = [item for item in range(len(needs)) if item not in beginning and can_come(needs[item], before, place)]
    return [(item, counts[before | (1 << item)]) for item in coming]


def find_ranking(problem, index):
    """Return the good ranking with the index."""
    needs = needs_of(problem)
    counts = counts_of(needs)
    ranking = ()
    while len(ranking) < problem[0]:
        ways = continued(needs, counts, ranking)
        at = 0
        while index >= ways[at][1]:
            index = index - ways[at][1]
            at = at + 1
        ranking = ranking + (ways[at][0],)
    return ranking


def find_index(problem, ranking):
    """Return the index of the good ranking."""
    needs = needs_of(problem)
    counts = counts_of(needs)
    index = 0
    for at, chosen in enumerate(ranking):
        ways = continued(needs, counts, ranking[:at])
        index = index + sum([many for item, many in ways if item < chosen])
    return index


def count_rankings(problem):
    """Return the number of the good rankings."""
    check(is_problem(problem), "problem")
    return count_all(problem)


def count_beginning(problem, beginning):
    """Return the number of the good rankings that begin with the beginning."""
    check(is_problem(problem), "problem")
    check(are_different_items(problem[0], beginning), "beginning")
    return count_begun(problem, beginning)


def nth_ranking(problem, index):
    """Return the good ranking with the index."""
    check(is_problem(problem), "problem")
    check(is_integer(index, 0, count_all(problem) - 1), "index")
    return find_ranking(problem, index)


def index_of_ranking(problem, ranking):
    """Return the index of the ranking, or None if it is not good."""
    check_ranking(problem, ranking)
    return find_index(problem, ranking) if is_good(problem, ranking) else None


def next_ranking(problem, ranking):
    """Return the good ranking with the next index, or None if there is none."""
    check_ranking(problem, ranking)
    if not is_good(problem, ranking):
        raise NotPossible("wrong")
    index = find_index(problem, ranking) + 1
    return find_ranking(problem, index) if index < count_all(problem) else None
