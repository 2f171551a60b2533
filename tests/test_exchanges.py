"""Points 76 to 78, 86 and 87: exchanges of two items, distances and paths."""

import copy
import unittest
from itertools import combinations, product

from rankswithin.exchanges import accepts_path, distance, exchanged, exchanges_in, told_path
from support import (
    DEEP_LIST, DEEP_TUPLE, NO_PROBLEMS, NO_RANKINGS_OF_THREE, ODD_VALUES, all_rankings, good_rankings,
    is_plain_integer, name_of_wrong, not_possible, sampled_problems, small_problems, swap, threes, tiny_problems,
    variants,
)

STILL = (4, (("within", 3, 4, 4), ("within", 1, 2, 2)))
AHEAD = (4, (("within", 3, 4, 4), ("ahead", 0, 1)))
FREE = (3, ())
NONE = (3, (("ahead", 0, 1), ("within", 1, 1, 1)))
ROUND = (3, (("ahead", 0, 1), ("ahead", 1, 0)))


def steps_to(first, second):
    """The told path, step by step (point 78)."""
    ranking, path = first, []
    while ranking != second:
        goal = {place: second.index(item) + 1 for place, item in enumerate(ranking, start=1)}
        behind = min(place for place in goal if goal[place] < place)
        ahead = max(place for place in goal if place < behind and goal[place] != place)
        path.append((ranking[ahead - 1], ranking[behind - 1]))
        ranking = swap(ranking, *path[-1])
    return tuple(path)


def right_path(problem, first, second, value):
    """Whether the value is a path from the first to the second ranking (point 77)."""
    if value.__class__ is not tuple:
        return False
    good, ranking = set(good_rankings(problem)), first
    for step in value:
        if step.__class__ is not tuple or len(step) != 2:
            return False
        if not all(is_plain_integer(item, 0, problem[0] - 1) for item in step) or step[0] == step[1]:
            return False
        ranking = swap(ranking, *step)
        if ranking not in good:
            return False
    return ranking == second


def good_pairs(problem, most):
    """Pairs of good rankings of the problem, also of the same one, of at most 2 * most different ones."""
    good = good_rankings(problem)
    some = good[::max(1, len(good) // most)]
    return [(first, second) for first in some for second in some]


def walked_problems():
    """Small problems with some good rankings."""
    found = tiny_problems()[::3] + threes()[::5] + sampled_problems(4, 20) + sampled_problems(5, 8)
    found = found + sampled_problems(6, 3) + [STILL, AHEAD, FREE, (5, ()), (7, ())]
    return [problem for problem in found if good_rankings(problem)]


class Exchanged(unittest.TestCase):
    def test_point_76_each_gets_the_place_of_the_other_one(self):
        for items in range(2, 6):
            for ranking in all_rankings(items)[::3]:
                for one, other in product(range(items), repeat=2):
                    if one != other:
                        found = exchanged((items, ()), ranking, one, other)
                        self.assertIsInstance(found, tuple)
                        self.assertEqual(found, swap(ranking, one, other))
                        self.assertEqual((found.index(one), found.index(other)),
                                         (ranking.index(other), ranking.index(one)))
                        self.assertEqual(exchanged((items, ()), found, other, one), ranking)

    def test_point_76_rankings_that_are_not_good_can_be_exchanged(self):
        self.assertEqual(exchanged(AHEAD, (3, 2, 1, 0), 3, 0), (0, 2, 1, 3))
        self.assertEqual(exchanged(NONE, (0, 1, 2), 2, 1), (0, 2, 1))
        self.assertEqual(exchanged(ROUND, (0, 1, 2), 0, 2), (2, 1, 0))
        self.assertEqual(exchanged((7, ()), (0, 1, 2, 3, 4, 5, 6), 6, 0), (6, 1, 2, 3, 4, 5, 0))


class Distance(unittest.TestCase):
    def test_point_76_how_far_the_places_are_apart(self):
        for items in range(1, 6):
            rankings = all_rankings(items)
            for first in rankings[::7]:
                for second in rankings:
                    expected = sum(abs(first.index(item) - second.index(item)) for item in range(items))
                    self.assertEqual(distance((items, ()), first, second), expected)
                    self.assertEqual(distance((items, ()), second, first), expected)

    def test_point_76_edges(self):
        self.assertEqual(distance((1, ()), (0,), (0,)), 0)
        self.assertEqual(distance((2, ()), (0, 1), (1, 0)), 2)
        self.assertEqual(distance((7, ()), (0, 1, 2, 3, 4, 5, 6), (6, 5, 4, 3, 2, 1, 0)), 24)

    def test_point_76_rankings_that_are_not_good_have_a_distance(self):
        self.assertEqual(distance(AHEAD, (3, 2, 1, 0), (0, 1, 2, 3)), 8)
        self.assertEqual((distance(NONE, (0, 1, 2), (0, 2, 1)), distance(ROUND, (0, 1, 2), (2, 1, 0))), (2, 4))


class ToldPath(unittest.TestCase):
    def test_point_78_step_by_step(self):
        longer = 0
        for problem in walked_problems():
            for first, second in good_pairs(problem, 10):
                found = told_path(problem, first, second)
                self.assertIsInstance(found, tuple)
                self.assertEqual(found, steps_to(first, second), (problem, first, second))
                longer += len(found) > 2
        self.assertGreater(longer, 100)

    def test_points_77_and_78_each_ranking_that_comes_is_good(self):
        for problem in walked_problems():
            good = set(good_rankings(problem))
            for first, second in good_pairs(problem, 10):
                ranking = first
                for step in told_path(problem, first, second):
                    ranking = swap(ranking, *step)
                    self.assertIn(ranking, good)
                self.assertEqual(ranking, second)

    def test_point_78_length_and_items_that_keep_their_place(self):
        for problem in walked_problems():
            for first, second in good_pairs(problem, 10):
                path = told_path(problem, first, second)
                self.assertLessEqual(2 * len(path), distance(problem, first, second))
                still = {item for item in first if first.index(item) == second.index(item)}
                self.assertFalse(still & {item for step in path for item in step})

    def test_point_78_which_one_is_told_first(self):
        self.assertEqual(told_path(FREE, (0, 1, 2), (1, 0, 2)), ((0, 1),))
        self.assertEqual(told_path(FREE, (1, 0, 2), (0, 1, 2)), ((1, 0),))
        self.assertEqual(told_path(FREE, (0, 1, 2), (2, 0, 1)), ((1, 2), (0, 2)))
        self.assertEqual(told_path(FREE, (0, 1, 2), (1, 2, 0)), ((0, 1), (0, 2)))
        self.assertEqual(told_path(FREE, (2, 0, 1), (0, 1, 2)), ((2, 0), (2, 1)))

    def test_point_78_the_empty_path(self):
        for problem in walked_problems():
            for ranking in good_rankings(problem)[:3]:
                self.assertEqual(told_path(problem, ranking, ranking), ())

    def test_point_87(self):
        self.assertEqual(told_path(STILL, (0, 1, 2, 3), (2, 1, 0, 3)), ((0, 2),))
        self.assertEqual(distance(STILL, (0, 1, 2, 3), (2, 1, 0, 3)), 4)
        self.assertEqual(told_path(AHEAD, (0, 1, 2, 3), (2, 0, 1, 3)), ((1, 2), (0, 2)))

    def test_twelve_constraints(self):
        problem = (7, (("ahead", 0, 6),) * 12)
        first, second = (0, 1, 2, 3, 4, 5, 6), (5, 4, 3, 2, 1, 0, 6)
        self.assertIs(accepts_path(problem, first, second, told_path(problem, first, second)), True)


class AcceptsPath(unittest.TestCase):
    def test_point_77_told_paths(self):
        for problem in walked_problems():
            for first, second in good_pairs(problem, 7):
                path = told_path(problem, first, second)
                self.assertIs(accepts_path(problem, first, second, path), True)
                turned = tuple((other, one) for one, other in path)
                self.assertIs(accepts_path(problem, first, second, turned), True)
                self.assertIs(accepts_path(problem, second, first, path[::-1]), True)
                self.assertIs(accepts_path(problem, first, second, path[:-1]), path == ())

    def test_point_77_all_short_paths(self):
        accepted = 0
        for problem in (FREE, STILL, AHEAD, (3, (("ahead", 0, 1),)), (3, (("within", 2, 2, 3),)), (2, ()), (1, ())):
            steps = list(product(range(problem[0]), repeat=2))
            for first, second in good_pairs(problem, 4):
                for size in range(4 if problem[0] < 4 else 3):
                    for value in product(steps, repeat=size):
                        right = right_path(problem, first, second, value)
                        self.assertIs(accepts_path(problem, first, second, value), right)
                        accepted += right
        self.assertGreater(accepted, 300)

    def test_point_77_the_empty_path(self):
        for problem in walked_problems()[::5]:
            for first, second in good_pairs(problem, 5):
                self.assertIs(accepts_path(problem, first, second, ()), first == second)
        self.assertIs(accepts_path((1, ()), (0,), (0,), ()), True)

    def test_point_77_paths_that_come_back(self):
        first = (0, 1, 2)
        self.assertIs(accepts_path(FREE, first, first, ((0, 1), (1, 0))), True)
        self.assertIs(accepts_path(FREE, first, first, ((0, 2),) * 5000), True)
        self.assertIs(accepts_path(FREE, first, first, ((0, 2),) * 5001), False)
        self.assertIs(accepts_path(FREE, first, (2, 1, 0), ((0, 2),) * 5001), True)

    def test_point_77_a_ranking_between_that_is_not_good(self):
        first, second = (0, 1, 2, 3), (2, 0, 1, 3)
        self.assertIs(accepts_path(AHEAD, first, second, ((1, 2), (0, 2))), True)
        self.assertIs(accepts_path(AHEAD, first, second, ((0, 2), (0, 1))), False)
        self.assertIs(accepts_path(AHEAD, first, first, ((0, 1), (0, 1))), False)
        self.assertIs(accepts_path(AHEAD, first, first, ((0, 2), (0, 2))), False)
        self.assertIs(accepts_path(AHEAD, first, first, ((1, 2), (1, 2))), True)

    def test_point_77_the_same_item_twice(self):
        first = (0, 1, 2)
        for step in ((0, 0), (1, 1), (2, 2)):
            self.assertIs(accepts_path(FREE, first, first, (step,)), False)
            self.assertIs(accepts_path(FREE, first, (1, 0, 2), (step, (0, 1))), False)
            self.assertIs(accepts_path(FREE, first, (1, 0, 2), ((0, 1), step)), False)

    def test_point_77_paths_that_are_changed(self):
        accepted = 0
        for problem, first, second in (
            (AHEAD, (0, 1, 2, 3), (2, 0, 1, 3)), (STILL, (0, 1, 2, 3), (2, 1, 0, 3)), (FREE, (0, 1, 2), (2, 0, 1)),
            (FREE, (0, 1, 2), (0, 1, 2)),
        ):
            for value in variants(told_path(problem, first, second)):
                right = right_path(problem, first, second, value)
                self.assertIs(accepts_path(problem, first, second, value), right)
                accepted += right
        self.assertGreater(accepted, 0)

    def test_point_86_values_of_every_kind(self):
        odd = [value for value in ODD_VALUES if value != ()] + [
            [], [(0, 1)], ([0, 1],), ((0, 1), [0, 1]), ((False, True),), ((0, True),), ((0.0, 1),), (("0", "1"),),
            ((0, 1, 2),), ((0,),), ((0, 3),), ((-1, 0),), ((0, None),), (0, 1), (DEEP_TUPLE,), (DEEP_LIST,),
            ((0, DEEP_TUPLE),), ((DEEP_TUPLE, DEEP_TUPLE),), "01", {(0, 1): True}, (((0, 1),),), ((10 ** 40, 0),),
        ]
        for first, second in good_pairs(FREE, 3):
            for value in odd:
                self.assertIs(accepts_path(FREE, first, second, value), False)


class ExchangesIn(unittest.TestCase):
    def test_point_79_all_pairs(self):
        for problem in small_problems()[::2]:
            good = set(good_rankings(problem))
            for ranking in sorted(good)[::max(1, len(good) // 5)]:
                pairs = combinations(range(problem[0]), 2)
                expected = [(one, other) for one, other in pairs if swap(ranking, one, other) in good]
                found = exchanges_in(problem, ranking)
                self.assertIsInstance(found, list)
                self.assertEqual(found, expected, (problem, ranking))

    def test_point_87(self):
        self.assertEqual(exchanges_in(STILL, (0, 1, 2, 3)), [(0, 2)])
        self.assertEqual(exchanges_in(AHEAD, (0, 1, 2, 3)), [(1, 2)])
        self.assertEqual(exchanges_in((1, ()), (0,)), [])

    def test_seven_items(self):
        self.assertEqual(exchanges_in((7, ()), (3, 1, 4, 0, 5, 2, 6)), list(combinations(range(7), 2)))


class WrongArguments(unittest.TestCase):
    no_rankings = NO_RANKINGS_OF_THREE + ODD_VALUES + [(2, False, 1), (True, 0, 2), (2, 0), (0,), [2, 0, 1]]

    def test_point_86_problem(self):
        for wrong in NO_PROBLEMS + ODD_VALUES:
            for ranking in ((0, 1, 2), None):
                self.assertEqual(name_of_wrong(self, exchanged, wrong, ranking, 0, 1), "problem")
                self.assertEqual(name_of_wrong(self, exchanges_in, wrong, ranking), "problem")
                self.assertEqual(name_of_wrong(self, distance, wrong, ranking, ranking), "problem")
                self.assertEqual(name_of_wrong(self, told_path, wrong, ranking, ranking), "problem")
                self.assertEqual(name_of_wrong(self, accepts_path, wrong, ranking, ranking, ()), "problem")

    def test_point_86_ranking(self):
        for problem in (FREE, NONE, ROUND):
            for wrong in self.no_rankings:
                self.assertEqual(name_of_wrong(self, exchanges_in, problem, wrong), "ranking")
                for one, other in ((0, 1), (3, 3), (None, None)):
                    self.assertEqual(name_of_wrong(self, exchanged, problem, wrong, one, other), "ranking")

    def test_point_86_first_and_second(self):
        for problem in (FREE, NONE, ROUND):
            for wrong in self.no_rankings:
                for function, more in ((distance, []), (told_path, []), (accepts_path, [None])):
                    for second in ((0, 1, 2), wrong):
                        self.assertEqual(name_of_wrong(self, function, problem, wrong, second, *more), "first")
                    self.assertEqual(name_of_wrong(self, function, problem, (0, 1, 2), wrong, *more), "second")

    def test_point_86_one_and_other(self):
        odd = [value for value in ODD_VALUES if value not in (0, 1, 2)]
        for wrong in odd + [True, False, 0.0, -1, 3, 10 ** 40, "0", (0,), [0]]:
            for problem in (FREE, NONE, ROUND):
                for other in (0, 3, wrong):
                    self.assertEqual(name_of_wrong(self, exchanged, problem, (0, 1, 2), wrong, other), "one")
                self.assertEqual(name_of_wrong(self, exchanged, problem, (0, 1, 2), 1, wrong), "other")
        for item in range(3):
            self.assertEqual(name_of_wrong(self, exchanged, FREE, (0, 1, 2), item, item), "other")
        self.assertEqual(name_of_wrong(self, exchanged, (1, ()), (0,), 0, 0), "other")

    def test_point_86_good(self):
        for problem in [AHEAD, STILL, NONE, ROUND] + threes()[::40]:
            good = set(good_rankings(problem))
            for first in all_rankings(problem[0])[::2]:
                if first not in good:
                    self.assertEqual(not_possible(self, exchanges_in, problem, first), "good")
                for second in all_rankings(problem[0])[::3]:
                    if first not in good or second not in good:
                        self.assertEqual(not_possible(self, told_path, problem, first, second), "good")
                        for value in ((), ((0, 1),), None):
                            self.assertEqual(not_possible(self, accepts_path, problem, first, second, value), "good")

    def test_point_86_good_comes_behind_all_others(self):
        for wrong in (None, (0, 1), (0, 1, 1)):
            for function, more in ((told_path, []), (accepts_path, [()])):
                self.assertEqual(name_of_wrong(self, function, NONE, (0, 1, 2), wrong, *more), "second")
                self.assertEqual(name_of_wrong(self, function, NONE, wrong, (0, 1, 2), *more), "first")
            self.assertEqual(name_of_wrong(self, exchanges_in, NONE, wrong), "ranking")


class TheSameAgain(unittest.TestCase):
    def test_point_2_arguments_stay_and_results_are_equal(self):
        value = [[0, 1], (1, 2)]
        before = copy.deepcopy(value)
        for _ in range(2):
            self.assertEqual(told_path(AHEAD, (0, 1, 2, 3), (2, 0, 1, 3)), ((1, 2), (0, 2)))
            self.assertIs(accepts_path(AHEAD, (0, 1, 2, 3), (2, 0, 1, 3), value), False)
            self.assertEqual(value, before)
            found = exchanges_in(AHEAD, (0, 1, 2, 3))
            self.assertEqual(found, [(1, 2)])
            found.append((0, 1))


if __name__ == "__main__":
    unittest.main()
