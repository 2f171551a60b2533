"""Problems for the tests, and what all rankings of their items say of them.

Nothing here but the errors is taken from the program: what it returns is compared with this.
"""

import random
from functools import lru_cache
from itertools import combinations, combinations_with_replacement, permutations

from rankswithin.errors import BadValue, NotPossible, TextError, TooLarge


VERDICTS = ("none", "certain", "impossible", "open")


def nested(depth, kind):
    """A tuple or a list that is nested so deep that no recursion gets through it."""
    value = kind()
    for _ in range(depth):
        value = kind((value,))
    return value


DEEP_TUPLE = nested(100000, tuple)
DEEP_LIST = nested(100000, list)
OTHER_DEEP_TUPLE = nested(100000, tuple)

# Values of every kind, none of which is a constraint, a ranking, a problem or evidence of anything.
ODD_VALUES = [
    None, True, False, 0, 1, 2, -1, 8, 10 ** 40, -10 ** 40, 1.0, float("nan"), b"cycle", {}, {"cycle"}, object(),
    "", "within", "ahead", "cycle", "overfull", "ranking", "contradiction", "ab", "abcd",
    [], [[]], (), ((),), ((), ()), ((), (), ()), ((), (), (), ()), [0], [0, 1], (None,), (True,), (False,),
    (True, False), ("0",), ("0", "1"), (0.0,), ([0],), ([0], [1]), ({},), ({}, {}),
    (0, None), (None, 0), (-1,), (7,), (10 ** 40,), ("within",), ("ahead",), ("cycle",), ("overfull",),
    ("cycle", None), ("cycle", ()), ("cycle", []), ("cycle", "cycle"), ("cycle", 1), ("cycle", (0,)),
    ("overfull", 1, 0, ()), ("overfull", 1, 0, None), ("overfull", 1, 0, ((),)), ("overfull", 1, 0, (None,)),
    ("overfull", 1, 0, ((0, None, None),)), ("overfull", 1, 0, ((0, (), ()),)),
    ("overfull", None, None, ((0, (0,), (0,)),)),
    ("ranking", None), ("ranking", ()), ("ranking", []), ("ranking", "ranking"), ("ranking", 1),
    ("contradiction", None), ("contradiction", ()), ("contradiction", ("cycle",)),
    ("contradiction", ("ranking", (0, 1))),
    DEEP_TUPLE, DEEP_LIST, (DEEP_TUPLE, DEEP_TUPLE), (DEEP_LIST, DEEP_LIST), (0, DEEP_TUPLE), (DEEP_TUPLE, 0),
    (DEEP_TUPLE, DEEP_TUPLE, DEEP_TUPLE), ("within", DEEP_TUPLE, DEEP_TUPLE, DEEP_TUPLE),
    ("ahead", DEEP_TUPLE, DEEP_TUPLE),
    ("cycle", DEEP_TUPLE), ("cycle", (DEEP_TUPLE, DEEP_TUPLE)), ("overfull", DEEP_TUPLE, DEEP_LIST, DEEP_TUPLE),
    ("overfull", 1, 0, DEEP_TUPLE), ("overfull", 1, 0, ((0, DEEP_TUPLE, DEEP_TUPLE),)),
    ("ranking", DEEP_TUPLE), ("contradiction", DEEP_TUPLE), (3, DEEP_TUPLE), (3, (DEEP_TUPLE,)), (3, DEEP_LIST),
]


def every_constraint(items):
    """All constraints for so many items."""
    windows = [
        ("within", item, low, high)
        for item in range(items) for low in range(1, items + 1) for high in range(low, items + 1)
    ]
    return windows + [("ahead", one, other) for one in range(items) for other in range(items) if one != other]


def meets(ranking, constraint):
    """Whether the ranking satisfies the constraint (point 6)."""
    place = {item: at for at, item in enumerate(ranking, start=1)}
    if constraint[0] == "ahead":
        return place[constraint[1]] < place[constraint[2]]
    return place[constraint[1]] in range(constraint[2], constraint[3] + 1)


def all_rankings(items):
    """All rankings of so many items, in order."""
    return list(permutations(range(items)))


@lru_cache(maxsize=None)
def satisfying(items, constraint):
    """The set of the rankings of so many items that satisfy the constraint."""
    return frozenset(ranking for ranking in all_rankings(items) if meets(ranking, constraint))


@lru_cache(maxsize=None)
def good_rankings(problem):
    """All good rankings of the problem, in order."""
    items, constraints = problem
    found = set(all_rankings(items))
    for constraint in constraints:
        found &= satisfying(items, constraint)
    return sorted(found)


def loose_problem(chance, items):
    """A problem of whatever constraints."""
    choice = every_constraint(items)
    return items, tuple(chance.choice(choice) for _ in range(chance.randrange(1, 13)))


def near_problem(chance, items):
    """A problem that some ranking satisfies, but for one constraint now and then."""
    hidden = tuple(chance.sample(range(items), items))
    choice = [one for one in every_constraint(items) if meets(hidden, one)]
    constraints = [chance.choice(choice) for _ in range(chance.randrange(1, 13))]
    if chance.randrange(3) == 0:
        constraints[chance.randrange(len(constraints))] = chance.choice(every_constraint(items))
    return items, tuple(constraints)


def crowded_problem(chance, items):
    """A problem with many items ahead of one another, and a few bounds."""
    windows = [one for one in every_constraint(items) if one[0] == "within"]
    pairs = list(combinations(range(items), 2))
    constraints = [("ahead",) + chance.choice(pairs) for _ in range(chance.randrange(1, 9))]
    constraints += [chance.choice(windows) for _ in range(chance.randrange(0, 4))]
    chance.shuffle(constraints)
    return items, tuple(constraints)


@lru_cache(maxsize=None)
def sampled_problems(items, many):
    """So many problems of each of three kinds, the same in each run."""
    chance = random.Random(1000 * items + many)
    makers = (loose_problem, near_problem, crowded_problem)
    return [make(chance, items) for _ in range(many) for make in makers]


@lru_cache(maxsize=None)
def tiny_problems():
    """All problems of one or two items with each constraint at most once, and some with one twice."""
    found = [(1, (("within", 0, 1, 1),) * many) for many in (0, 1, 2, 12)]
    choice = every_constraint(2)
    for many in range(len(choice) + 1):
        found += [(2, constraints) for constraints in combinations(choice, many)]
    return found + [(2, (one, other, one)) for one in choice for other in choice]


@lru_cache(maxsize=None)
def threes():
    """All problems of three items with at most two constraints, also with one twice."""
    choice = every_constraint(3)
    return [(3, one) for many in range(3) for one in combinations_with_replacement(choice, many)]


@lru_cache(maxsize=None)
def small_problems():
    """Problems for the comparison with all rankings of their items."""
    found = tiny_problems() + threes() + sampled_problems(3, 100) + sampled_problems(4, 100)
    found = found + sampled_problems(5, 30) + sampled_problems(6, 8) + sampled_problems(7, 3)
    return found + [(items, ()) for items in range(1, 8)]


def few_constraints(problems):
    """Those of the problems that have at most ten constraints."""
    return [problem for problem in problems if len(problem[1]) <= 10]


@lru_cache(maxsize=None)
def full_problems():
    """Problems with twelve constraints: also such that are put together of two."""
    found = []
    for items, many in ((3, 40), (4, 40), (5, 20), (6, 8), (7, 3)):
        problems = sampled_problems(items, many)
        found += [problem for problem in problems if len(problem[1]) == 12]
        both = [one[1] + other[1] for one, other in zip(problems, problems[1:])]
        found += [(items, constraints[:12]) for constraints in both if len(constraints) >= 12]
    return found


def steps_of(problem):
    """The set of the pairs of items of which the one is ahead of the other one by a constraint."""
    return {one[1:] for one in problem[1] if one[0] == "ahead"}


@lru_cache(maxsize=None)
def is_cyclic(problem):
    """Whether the problem has a cycle: some item can be reached from itself."""
    steps = steps_of(problem)
    reached = set(steps)
    while True:
        more = {(one, far) for one, other in reached for other_too, far in steps if other == other_too} - reached
        if not more:
            return any(one == other for one, other in reached)
        reached |= more


@lru_cache(maxsize=None)
def chains_up_to(problem, most):
    """All chains of the problem with at most so many items, the shorter ones first, then in order."""
    steps = sorted(steps_of(problem))
    found = layer = [(item,) for item in range(problem[0])]
    for _ in range(most - 1):
        layer = sorted(chain + (other,) for chain in layer for one, other in steps if one == chain[-1])
        found = found + layer
    return found


def all_chains(problem):
    """All chains of a problem that is not cyclic."""
    return chains_up_to(problem, problem[0])


def low_by(problem, chain):
    """The low place that the last item has by the chain (point 24)."""
    return max([1] + [one[2] for one in problem[1] if one[:2] == ("within", chain[0])]) + len(chain) - 1


def high_by(problem, chain):
    """The high place that the first item has by the chain (point 24)."""
    return min([problem[0]] + [one[3] for one in problem[1] if one[:2] == ("within", chain[-1])]) - len(chain) + 1


@lru_cache(maxsize=None)
def told_windows(problem):
    """The windows of the items of a problem that is not cyclic, by all chains (point 22)."""
    items, chains = range(problem[0]), all_chains(problem)
    return [
        (
            max(low_by(problem, chain) for chain in chains if chain[-1] == item),
            min(high_by(problem, chain) for chain in chains if chain[0] == item),
        )
        for item in items
    ]


def told_lower(problem, item):
    """The lower chain: read backwards, the first of those that have the earliest place."""
    earliest = told_windows(problem)[item][0]
    chains = [one for one in all_chains(problem) if one[-1] == item and low_by(problem, one) == earliest]
    return min(one[::-1] for one in chains)[::-1]


def told_upper(problem, item):
    """The upper chain: the first of those that have the latest place."""
    latest = told_windows(problem)[item][1]
    return min(one for one in all_chains(problem) if one[0] == item and high_by(problem, one) == latest)


def every_interval(items):
    """All intervals of so many items (point 30)."""
    return [(low, high) for low in range(1, items + 2) for high in range(0, items + 1)]


def room(low, high):
    """The number of the places from low to high."""
    return len(range(low, high + 1))


def due_items(problem, low, high):
    """The items that are due within the interval (point 30)."""
    windows = enumerate(told_windows(problem))
    return tuple(item for item, (earliest, latest) in windows if earliest >= low and latest <= high)


def is_plain_integer(value, least, most):
    """Whether the value is an integer from least to most, and not True or False."""
    return value.__class__ is int and least <= value <= most


def right_chain(problem, value):
    """Whether the value is a chain of the problem (point 20)."""
    if value.__class__ is not tuple or not value:
        return False
    if not all(is_plain_integer(item, 0, problem[0] - 1) for item in value):
        return False
    return set(zip(value, value[1:])) <= steps_of(problem)


def right_row(problem, low, high, row):
    """Whether the row stands in a contradiction with the bounds (point 32)."""
    if row.__class__ is not tuple or len(row) != 3 or not is_plain_integer(row[0], 0, problem[0] - 1):
        return False
    item, lower, upper = row
    if not right_chain(problem, lower) or not right_chain(problem, upper):
        return False
    if lower[-1] != item or upper[0] != item:
        return False
    return low_by(problem, lower) >= low and high_by(problem, upper) <= high


def right_contradiction(problem, value):
    """Whether the value is a contradiction of the problem (point 32)."""
    if value.__class__ is not tuple or not value or value[0].__class__ is not str:
        return False
    if value[0] == "cycle" and len(value) == 2:
        return right_chain(problem, value[1]) and len(value[1]) >= 2 and value[1][0] == value[1][-1]
    if value[0] != "overfull" or len(value) != 4:
        return False
    _, low, high, rows = value
    if not is_plain_integer(low, -20, 20) or not is_plain_integer(high, -20, 20) or rows.__class__ is not tuple:
        return False
    if not all(right_row(problem, low, high, row) for row in rows):
        return False
    items = [row[0] for row in rows]
    return items == sorted(set(items)) and len(rows) > room(low, high)


def told_contradiction(problem):
    """The told contradiction of a problem, step by step (points 21 and 33), or None if some ranking is good."""
    if is_cyclic(problem):
        # The chains stand by their length, and then in order.
        return "cycle", next(one for one in chains_up_to(problem, problem[0] + 1) if len(one) > 1 and one[0] == one[-1])
    for low, high in every_interval(problem[0]):
        items = due_items(problem, low, high)
        if len(items) > room(low, high):
            rows = tuple((item, told_lower(problem, item), told_upper(problem, item)) for item in items)
            return "overfull", low, high, rows
    return None


def rows_by_others(problem, low, high, chains):
    """Rows for all items of which some chain shows that they are due: with the last chains that do so."""
    rows = []
    for item in range(problem[0]):
        below = [chain for chain in chains if chain[-1] == item and low_by(problem, chain) >= low]
        above = [chain for chain in chains if chain[0] == item and high_by(problem, chain) <= high]
        if below and above:
            rows.append((item, below[-1], above[-1]))
    return tuple(rows)


def contradictions_by_others(problem):
    """Contradictions of the problem that are not the told one, if it has some."""
    found = []
    chains = chains_up_to(problem, 4)
    found += [("cycle", chain) for chain in chains if len(chain) > 1 and chain[0] == chain[-1]]
    for low in range(-1, problem[0] + 3):
        for high in range(-1, problem[0] + 3):
            rows = rows_by_others(problem, low, high, chains)
            if len(rows) > room(low, high):
                found.append(("overfull", low, high, rows))
    return found


def place_by_place(problem):
    """The ranking by deadlines of a problem that is not cyclic, or None if some place stays empty (point 42)."""
    windows, ranking = told_windows(problem), []
    for place in range(1, problem[0] + 1):
        ready = [(windows[item][1], item) for item in range(problem[0]) if windows[item][0] <= place]
        ready = [one for one in ready if one[1] not in ranking]
        if not ready:
            return None
        ranking.append(min(ready)[1])
    return tuple(ranking)


def right_ranking(problem, value):
    """Whether the value is a good ranking of the problem."""
    if value.__class__ is not tuple or len(value) != problem[0]:
        return False
    if not all(is_plain_integer(item, 0, problem[0] - 1) for item in value):
        return False
    return len(set(value)) == problem[0] and all(value in satisfying(problem[0], one) for one in problem[1])


def plus(problem, *constraints):
    """The problem with constraints behind its own, also more than 12."""
    return problem[0], problem[1] + constraints


def take(problem, indexes):
    """The part with these constraints (point 15)."""
    return problem[0], tuple(problem[1][index] for index in indexes)


def every_part(problem):
    """All ascending tuples of indexes of the constraints, the shorter ones first."""
    indexes = range(len(problem[1]))
    return [one for size in range(len(indexes) + 1) for one in combinations(indexes, size)]


@lru_cache(maxsize=None)
def violations(problem):
    """The sets of the indexes of the constraints that some ranking violates, each once."""
    items, constraints = problem
    wrong = {ranking: [] for ranking in all_rankings(items)}
    for index, one in enumerate(constraints):
        for ranking in set(wrong) - satisfying(items, one):
            wrong[ranking].append(index)
    return sorted(set(map(tuple, wrong.values())))


@lru_cache(maxsize=None)
def told_corrections(problem):
    """The corrections: the least of the sets that rankings violate (points 102 and 105)."""
    sets = [set(one) for one in violations(problem)]
    return [one for one in violations(problem) if not any(other < set(one) for other in sets)]


@lru_cache(maxsize=None)
def told_conflicts(problem):
    """The conflicts, part by part: a part has a good ranking if some ranking violates none of it (point 99)."""
    wrong, found = [set(one) for one in told_corrections(problem)], []
    for indexes in every_part(problem):
        if all(one & set(indexes) for one in wrong) and not any(set(one) <= set(indexes) for one in found):
            found.append(indexes)
    return sorted(found)


def denying(items, constraint):
    """The negation of the constraint, as point 53 says."""
    if constraint[0] == "ahead":
        return (("ahead", constraint[2], constraint[1]),)
    word, item, low, high = constraint
    found = []
    if low > 1:
        found.append((word, item, 1, low - 1))
    if high < items:
        found.append((word, item, high + 1, items))
    return tuple(found)


def told_verdict(problem, constraint):
    """The verdict on the constraint by all good rankings (point 54)."""
    met = [meets(ranking, constraint) for ranking in good_rankings(problem)]
    if not met:
        return "none"
    return "certain" if all(met) else "open" if any(met) else "impossible"


def told_evidence(problem, constraint):
    """The told evidence, step by step (point 56)."""
    word = told_verdict(problem, constraint)
    if word == "none":
        return word, told_contradiction(problem)
    denied = [plus(problem, one) for one in denying(problem[0], constraint)]
    if word == "certain":
        return word, place_by_place(problem), tuple(told_contradiction(one) for one in denied)
    behind = plus(problem, constraint)
    if word == "impossible":
        return word, place_by_place(problem), told_contradiction(behind)
    return word, place_by_place(behind), next(place_by_place(one) for one in denied if good_rankings(one))


def right_verdict(problem, constraint, value):
    """Whether the value is evidence of a verdict on the constraint (point 55)."""
    if value.__class__ is not tuple or not value or value[0].__class__ is not str:
        return False
    word, parts = value[0], value[1:]
    if word == "none":
        return len(parts) == 1 and right_contradiction(problem, parts[0])
    if word not in VERDICTS or len(parts) != 2 or not right_ranking(problem, parts[0]):
        return False
    if word == "certain":
        denied = [plus(problem, one) for one in denying(problem[0], constraint)]
        if parts[1].__class__ is not tuple or len(parts[1]) != len(denied):
            return False
        return all(right_contradiction(one, other) for one, other in zip(denied, parts[1]))
    if word == "impossible":
        return right_contradiction(plus(problem, constraint), parts[1])
    good = right_ranking(problem, parts[1])
    return good and meets(parts[0], constraint) and not meets(parts[1], constraint)


def swap(ranking, one, other):
    """The ranking with the two items exchanged (point 76)."""
    return tuple(other if item == one else one if item == other else item for item in ranking)


def pairs_of(problem):
    """The pairs of items of the problem, the lesser one first."""
    return list(combinations(range(problem[0]), 2))


def between(problem, one, other):
    """The indexes of the "ahead" constraints between the two items."""
    return [index for index, row in enumerate(problem[1]) if row[0] == "ahead" and {one, other} == set(row[1:])]


def merging(problem, one, other):
    """The merged problem, constraint by constraint (point 80)."""
    more = []
    for row in problem[1]:
        places = (1,) if row[0] == "within" else (1, 2)
        if sum(row[at] in (one, other) for at in places) == 1:
            turn = {one: other, other: one}
            more.append(tuple(turn.get(part, part) if at in places else part for at, part in enumerate(row)))
    return plus(problem, *more)


@lru_cache(maxsize=None)
def told_exchangeable(problem):
    """The exchangeable pairs, by all good rankings (point 79)."""
    good = set(good_rankings(problem))
    return [pair for pair in pairs_of(problem) if any(swap(ranking, *pair) in good for ranking in good)]


def right_pair(problem, one, other, value):
    """Whether the value is evidence about the two items (point 81)."""
    if value.__class__ is not tuple or len(value) != 2 or value[0].__class__ is not str:
        return False
    word, part = value
    if word == "both":
        return right_ranking(problem, part) and swap(part, one, other) in good_rankings(problem)
    if word == "ahead":
        many = len(problem[1])
        return is_plain_integer(part, 0, many - 1) and part in between(problem, one, other)
    if word == "never":
        return not between(problem, one, other) and right_contradiction(merging(problem, one, other), part)
    return False


def beginnings(items):
    """All beginnings of so many items."""
    return [one for many in range(items + 1) for one in permutations(range(items), many)]


def same(value, other):
    """Whether the values are the same: True is not 1, and a list is not a tuple."""
    if value.__class__ is not other.__class__:
        return False
    if value.__class__ is tuple:
        return len(value) == len(other) and all(same(one, part) for one, part in zip(value, other))
    return value == other


def variants(value):
    """The value changed at one place, in many ways."""
    if value.__class__ is str:
        return ["", value[:-1], value + "s", "cycle", "overfull", "ranking", "contradiction", "open", None, 0, (value,)]
    if value.__class__ is not tuple:
        return [value + 1, value - 1, value == 1, None, str(value), float(value), (value,), [value], DEEP_TUPLE]
    found = [list(value), value + (0,), value + ((),), (value,), (), None, value[::-1], value + value, DEEP_TUPLE]
    for at, part in enumerate(value):
        found.append(value[:at] + value[at + 1:])
        found.append(value[:at] + (part, part) + value[at + 1:])
        found.append(value[:at] + value[at + 1:at + 2] + (part,) + value[at + 2:])
        found += [value[:at] + (other,) + value[at + 1:] for other in variants(part)]
    return found


def name_of_wrong(case, function, *arguments):
    """The name that the BadValue has which the call raises."""
    with case.assertRaises(BadValue) as caught:
        function(*arguments)
    case.assertIs(caught.exception.__class__, BadValue)
    return caught.exception.name


def too_large(case, function, *arguments):
    """What the TooLarge says that the call raises."""
    with case.assertRaises(TooLarge) as caught:
        function(*arguments)
    return caught.exception.what


def not_possible(case, function, *arguments):
    """What the NotPossible says that the call raises."""
    with case.assertRaises(NotPossible) as caught:
        function(*arguments)
    return caught.exception.why


def text_error(case, function, *arguments):
    """The column and the words of the TextError that the call raises."""
    with case.assertRaises(TextError) as caught:
        function(*arguments)
    case.assertIs(caught.exception.__class__, TextError)
    return caught.exception.column, caught.exception.words


def no_indexes(many):
    """Values that are no ascending tuple of indexes of so many constraints."""
    found = [value for value in ODD_VALUES if value != () and not (many > 7 and value == (7,))]
    found += [(many,), (-1,), (0, many), (-1, 0), (0, 0), (False,), (0.0,), ("0",), (None,), [], [0], "0", 0, None]
    if many > 0:
        last = many - 1
        found += [(last, last), (last, many), (last, 0), (True,), (last + 0.0,), [last], last, {last}, ((last,),)]
    if many > 1:
        found += [(1, 0), (0, True), (False, 1), (0, 1, 1), (0, 0, 1), [0, 1], tuple(range(many))[::-1]]
    return found


# Values that are no problem.
NO_PROBLEMS = [
    None, 3, "problem", (), (3,), (3, (), ()), [3, ()], (3, []), (True, ()), (0, ()), (8, ()), (-1, ()), ("3", ()),
    (3, None), (3, "within"), (3, (("within", 0, 1, 4),)), (3, (("within", 0, 0, 1),)), (3, (("within", 0, 2, 1),)),
    (3, (("within", 3, 1, 1),)), (3, (["within", 0, 1, 1],)), (3, (("within", 0, 1),)), (3, (("within", 0, 1, 1, 1),)),
    (3, (("ahead", 0, 0),)), (3, (("ahead", 0, 3),)), (3, (("ahead", 0),)), (3, (("ahead", 0, 1, 2),)),
    (3, (("ahead", False, True),)), (3, (("behind", 0, 1),)), (3, (("ahead", 0, 1),) * 13), (1, (("ahead", 0, 1),)),
    (3, ("ahead", 0, 1)), (3, (("ahead", 0, 1), None)), DEEP_TUPLE, DEEP_LIST, (3, DEEP_TUPLE),
]

# Values that are no ranking, no order and no beginning of the items 0, 1 and 2.
NO_RANKINGS_OF_THREE = [
    None, 0, "012", [0, 1, 2], [], (0, 1, 3), (0, 1, -1), (0, 1, 1), (False, True, 2), (0, 1, "2"), (0, 1, None),
    (0, 1, 2, 3), (0, 1, 2, 0), ((0, 1, 2),), (0, 1, 2.0), ([0], [1], [2]), DEEP_TUPLE, DEEP_LIST,
]

# Values that are no constraint for three items.
NO_CONSTRAINTS_OF_THREE = [
    ("within", 0, 1), ("within", 0, 1, 4), ("within", 0, 0, 1), ("within", 0, 2, 1), ("within", 3, 1, 1),
    ("within", -1, 1, 1), ("within", 0, 1, 1, 1), ("within", False, 1, 1), ("within", 0, True, 1),
    ("within", 0, 1, True),
    ("within", 0.0, 1, 1), ("within", "0", 1, 1), ["within", 0, 1, 1], ("ahead", 0, 0), ("ahead", 0, 3), ("ahead", 0),
    ("ahead", -1, 0), ("ahead", 0, 1, 2), ("ahead", False, 1), ("ahead", 0, True), ["ahead", 0, 1], ("behind", 0, 1),
    ("ahead", [0], 1), ("within", 0, None, 1), (("ahead", 0, 1),), (("ahead",), 0, 1), ("AHEAD", 0, 1), "ahead",
]

# Values that are no names.
NO_NAMES = [value for value in ODD_VALUES if value not in (("within",), ("ahead",), ("cycle",), ("overfull",))] + [
    ["ann"], ["ann", "bob", "cid"], "ann", ("",), ("ann", ""), ("Ann",), ("ann", "bob", "ann"), ("ninechars",),
    ("a b",), ("a1",), ("ann", None), ("ann", 1), ("ann", b"bob"), (b"ann",), ("ann", ["bob"]), ("ann", ("bob",)),
    (("ann",),), tuple("abcdefgh"), {"ann": 0}, ("ann", True), ("\u00e9",), ("ann\n",), ("ann", DEEP_TUPLE),
]

# Values that are no texts.
NO_TEXTS = [value for value in ODD_VALUES if not isinstance(value, str)] + [
    " " * 501, "a" * 501, "a\n", "\n", "ann\nbob", "\n" * 500, "a 1..2;" * 72, b"ann", ["ann"], ("ann",), None, 1,
    " " * 500 + "\n", "ann < bob\r\n", bytearray(b"ann"), DEEP_TUPLE, DEEP_LIST,
]
