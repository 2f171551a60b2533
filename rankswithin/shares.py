"""How many of the good rankings have an item at each place, or one item ahead of another one."""

from rankswithin.checking import check, is_item
from rankswithin.counting import count_all
from rankswithin.problems import added, check_item, is_problem
from rankswithin.rankings import at_place


def place_counts(problem, item):
    """Return the numbers of the good rankings in which the item has the place 1, 2, and so on."""
    check_item(problem, item)
    return tuple([count_all(at_place(problem, item, place)) for place in range(1, problem[0] + 1)])


def count_ahead(problem, one, other):
    """Return the number of the good rankings in which the one is ahead of the other one."""
    check(is_problem(problem), "problem")
    check(is_item(problem[0], one), "one")
    check(is_item(problem[0], other) and other != one, "other")
    return count_all(added(problem, ("ahead", one, other)))
