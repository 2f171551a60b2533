"""Points 3 to 11 and 16 to 18: constraints, rankings and problems."""

import copy
import unittest
from itertools import product

from rankswithin.problems import (
    is_constraint, is_problem, is_ranking, places, satisfies, violated, with_constraint,
)
from support import (
    DEEP_LIST, DEEP_TUPLE, NO_PROBLEMS, NO_RANKINGS_OF_THREE, ODD_VALUES, OTHER_DEEP_TUPLE, all_rankings,
    every_constraint, good_rankings, meets, name_of_wrong, satisfying, small_problems, too_large,
)

# What can stand in a constraint, right and wrong.
PARTS = [-1, 0, 1, 2, 3, 4, True, False, None, "0", "within", (1,), [1], 1.0, DEEP_TUPLE, DEEP_LIST]
THREE = (3, (("within", 0, 1, 2), ("ahead", 2, 1)))


class IsConstraint(unittest.TestCase):
    def test_point_6_all_constraints_and_no_others_of_each_form(self):
        # The texts of the values tell True from 1, and a list from a tuple.
        texts = {repr(one) for one in every_constraint(3)}
        plain = [part for part in PARTS if part is not DEEP_TUPLE and part is not DEEP_LIST]
        for word in ("within", "ahead", "Within", "behind", "", 0, None):
            for size in range(4):
                for rest in product(plain, repeat=size):
                    value = (word,) + rest
                    self.assertIs(is_constraint(3, value), repr(value) in texts, value)

    def test_point_6_too_long(self):
        for one in every_constraint(3):
            for more in PARTS:
                self.assertIs(is_constraint(3, one + (more,)), False)
            self.assertIs(is_constraint(3, one[:-1]), False)

    def test_point_3_lists_are_no_constraints(self):
        for one in every_constraint(3):
            self.assertIs(is_constraint(3, one), True)
            self.assertIs(is_constraint(3, list(one)), False)
            self.assertIs(is_constraint(3, (one,)), False)

    def test_point_3_true_and_false_are_no_integers(self):
        for value in (("within", False, 1, 1), ("within", 0, True, 1), ("within", 0, 1, True), ("ahead", False, 1),
                      ("ahead", 0, True), ("ahead", True, False)):
            self.assertIs(is_constraint(2, value), False)

    def test_point_6_just_outside(self):
        for items in range(1, 9):
            self.assertIs(is_constraint(items, ("within", items - 1, 1, items)), True)
            self.assertIs(is_constraint(items, ("within", 0, items, items)), True)
            for value in (("within", items, 1, 1), ("within", -1, 1, 1), ("within", 0, 0, 1),
                          ("within", 0, 1, items + 1), ("within", 0, items + 1, items + 1), ("within", 0, 2, 1),
                          ("ahead", 0, 0), ("ahead", 0, items), ("ahead", items, 0), ("ahead", 0, -1)):
                self.assertIs(is_constraint(items, value), False, (items, value))

    def test_the_number_of_the_items_is_not_checked(self):
        self.assertIs(is_constraint(0, ("within", 0, 1, 1)), False)
        self.assertIs(is_constraint(0, ("ahead", 0, 1)), False)
        self.assertIs(is_constraint(8, ("within", 7, 8, 8)), True)
        self.assertIs(is_constraint(100, ("ahead", 99, 0)), True)

    def test_point_3_values_of_every_kind(self):
        for value in ODD_VALUES:
            self.assertIs(is_constraint(3, value), False)
        odd_parts = (None, True, False, 1.0, "0", b"ahead", (1,), [1], DEEP_TUPLE, DEEP_LIST, OTHER_DEEP_TUPLE)
        for right in (("within", 1, 1, 2), ("ahead", 0, 1)):
            for at in range(len(right)):
                for odd in odd_parts:
                    self.assertIs(is_constraint(3, right[:at] + (odd,) + right[at + 1:]), False)


class IsRanking(unittest.TestCase):
    def test_point_5_all_rankings_and_no_others(self):
        for items in range(4):
            right = set(all_rankings(items))
            for size in range(5):
                for value in product(range(-1, 5), repeat=size):
                    self.assertIs(is_ranking(items, value), value in right, (items, value))

    def test_point_5_seven_and_eight_items(self):
        self.assertIs(is_ranking(7, (6, 5, 4, 3, 2, 1, 0)), True)
        self.assertIs(is_ranking(7, (6, 5, 4, 3, 2, 1, 1)), False)
        self.assertIs(is_ranking(7, tuple(range(8))), False)
        self.assertIs(is_ranking(8, tuple(range(8))), True)
        self.assertIs(is_ranking(1, (0,)), True)
        self.assertIs(is_ranking(10 ** 30, (0,)), False)

    def test_point_3_values_of_every_kind(self):
        for value in NO_RANKINGS_OF_THREE + ODD_VALUES:
            self.assertIs(is_ranking(3, value), False)
        for value in (True, (False,), (0.0,), ("0",), [0], ([0],), (DEEP_TUPLE,), (DEEP_LIST,), DEEP_TUPLE):
            self.assertIs(is_ranking(1, value), False)
        self.assertIs(is_ranking(2, (False, True)), False)


class IsProblem(unittest.TestCase):
    def test_point_5_one_to_seven_items(self):
        for items in range(-1, 10):
            self.assertIs(is_problem((items, ())), 1 <= items <= 7)
        self.assertIs(is_problem((10 ** 40, ())), False)

    def test_point_7_at_most_twelve_constraints(self):
        for many in range(15):
            self.assertIs(is_problem((2, (("ahead", 0, 1),) * many)), many <= 12)

    def test_point_7_each_constraint_counts(self):
        right = (("within", 0, 1, 2), ("ahead", 1, 0))
        self.assertIs(is_problem((2, right)), True)
        for at in range(3):
            for wrong in (("within", 0, 1, 3), ("ahead", 1, 1), ["ahead", 1, 0], None, DEEP_TUPLE):
                self.assertIs(is_problem((2, right[:at] + (wrong,) + right[at:])), False)

    def test_point_7_problems_that_contradict_themselves(self):
        self.assertIs(is_problem((2, (("ahead", 0, 1), ("ahead", 1, 0), ("ahead", 0, 1)))), True)

    def test_point_3_values_of_every_kind(self):
        for value in NO_PROBLEMS + ODD_VALUES:
            self.assertIs(is_problem(value), False)
        self.assertIs(is_problem((True, ())), False)
        self.assertIs(is_problem(((3, ()), ())), False)
        self.assertIs(is_problem(((3, ()),)), False)


class OfRankings(unittest.TestCase):
    def test_points_9_and_10_of_all_rankings(self):
        for problem in small_problems():
            items, constraints = problem
            good = set(good_rankings(problem))
            for ranking in all_rankings(items)[::1 if items < 6 else 37]:
                wrong = tuple(at for at, one in enumerate(constraints) if ranking not in satisfying(items, one))
                self.assertEqual(violated(problem, ranking), wrong)
                self.assertIs(satisfies(problem, ranking), ranking in good)
                self.assertIs(satisfies(problem, ranking), violated(problem, ranking) == ())

    def test_point_10_places(self):
        for items in range(1, 6):
            told = set()
            for ranking in all_rankings(items):
                found = places((items, ()), ranking)
                self.assertIsInstance(found, tuple)
                self.assertEqual([ranking[place - 1] for place in found], list(range(items)))
                told.add(found)
            self.assertEqual(len(told), len(all_rankings(items)))

    def test_point_11_one_constraint_more(self):
        for items in range(1, 4):
            for problem in ((items, ()), (items, (every_constraint(items)[-1],) * 11)):
                for one in every_constraint(items):
                    more = with_constraint(problem, one)
                    self.assertEqual(more, (items, problem[1] + (one,)))
                    for ranking in all_rankings(items):
                        both = satisfies(problem, ranking) and meets(ranking, one)
                        self.assertIs(satisfies(more, ranking), both)

    def test_point_11_all_places(self):
        for items in range(1, 6):
            for item in range(items):
                problem = with_constraint((items, ()), ("within", item, 1, items))
                for ranking in all_rankings(items):
                    self.assertIs(satisfies(problem, ranking), True)

    def test_point_7_a_constraint_twice(self):
        problem = (2, (("ahead", 0, 1), ("within", 1, 1, 1), ("ahead", 0, 1)))
        self.assertEqual(violated(problem, (1, 0)), (0, 2))
        self.assertEqual(violated(problem, (0, 1)), (1,))

    def test_one_item(self):
        self.assertEqual(places((1, ()), (0,)), (1,))
        self.assertEqual(violated((1, (("within", 0, 1, 1),)), (0,)), ())
        self.assertIs(satisfies((1, ()), (0,)), True)
        self.assertEqual(with_constraint((1, ()), ("within", 0, 1, 1)), (1, (("within", 0, 1, 1),)))

    def test_point_18(self):
        self.assertEqual(violated(THREE, (1, 0, 2)), (1,))


class WrongArguments(unittest.TestCase):
    def test_point_17_problem(self):
        for wrong in NO_PROBLEMS + ODD_VALUES:
            for function in (places, violated, satisfies):
                self.assertEqual(name_of_wrong(self, function, wrong, (0, 1, 2)), "problem")
                self.assertEqual(name_of_wrong(self, function, wrong, None), "problem")
            self.assertEqual(name_of_wrong(self, with_constraint, wrong, ("ahead", 0, 1)), "problem")
            self.assertEqual(name_of_wrong(self, with_constraint, wrong, None), "problem")

    def test_point_17_ranking(self):
        for wrong in NO_RANKINGS_OF_THREE + ODD_VALUES + [(0, 1), (0,), ()]:
            for function in (places, violated, satisfies):
                self.assertEqual(name_of_wrong(self, function, THREE, wrong), "ranking")

    def test_point_17_constraint(self):
        full = (3, (("ahead", 0, 1),) * 12)
        wrongs = ODD_VALUES + [("ahead", 0, 3), ("within", 0, 1, 4), ["ahead", 0, 1], ("ahead", False, True)]
        for wrong in wrongs:
            self.assertEqual(name_of_wrong(self, with_constraint, THREE, wrong), "constraint")
            self.assertEqual(name_of_wrong(self, with_constraint, full, wrong), "constraint")

    def test_point_17_too_many_constraints(self):
        constraints = (("ahead", 0, 1),) * 12
        self.assertEqual(too_large(self, with_constraint, (2, constraints), ("ahead", 0, 1)), "constraints")
        self.assertEqual(with_constraint((2, constraints[:11]), ("ahead", 0, 1)), (2, constraints))


class TheSameAgain(unittest.TestCase):
    def test_point_2_arguments_stay_and_results_are_equal(self):
        ranking, constraint = (1, 0, 2), ("ahead", 0, 1)
        calls = [
            (is_problem, [THREE]), (is_constraint, [3, constraint]), (is_ranking, [3, ranking]),
            (is_problem, [[3, [["ahead", 0, 1]]]]), (is_constraint, [3, ["ahead", 0, 1]]), (is_ranking, [3, [2, 1, 0]]),
            (places, [THREE, ranking]), (violated, [THREE, ranking]), (satisfies, [THREE, ranking]),
            (with_constraint, [THREE, constraint]),
        ]
        for function, arguments in calls:
            before = copy.deepcopy(arguments)
            first = function(*arguments)
            self.assertEqual(arguments, before)
            self.assertEqual(function(*before), first)
            self.assertEqual(arguments, before)


if __name__ == "__main__":
    unittest.main()
