"""Points 12 to 17: problems that are formed from a problem."""

import copy
import unittest
from itertools import combinations, product

from rankswithin.formed import mirrored, part, renamed, tidied
from rankswithin.problems import is_problem, violated
from support import (
    NO_PROBLEMS, NO_RANKINGS_OF_THREE, ODD_VALUES, all_rankings, every_constraint, good_rankings, name_of_wrong,
    small_problems,
)

THREE = (3, (("within", 0, 1, 2), ("ahead", 2, 1)))


class Tidied(unittest.TestCase):
    def test_point_12_in_order_and_each_once(self):
        for problem in small_problems():
            items, constraints = tidied(problem)
            self.assertEqual(items, problem[0])
            self.assertIsInstance(constraints, tuple)
            self.assertEqual(set(constraints), set(problem[1]))
            keys = [(one[0] != "within", one[1:]) for one in constraints]
            self.assertTrue(all(one < other for one, other in zip(keys, keys[1:])))

    def test_point_12_the_same_good_rankings(self):
        for problem in small_problems():
            self.assertEqual(good_rankings(tidied(problem)), good_rankings(problem))

    def test_point_12_each_key_counts(self):
        shuffled = (
            ("ahead", 2, 0), ("within", 1, 1, 3), ("ahead", 0, 2), ("within", 0, 2, 3), ("within", 0, 2, 2),
            ("ahead", 0, 1), ("within", 0, 1, 3), ("ahead", 2, 0), ("within", 1, 1, 3),
        )
        self.assertEqual(tidied((3, shuffled)), (3, (
            ("within", 0, 1, 3), ("within", 0, 2, 2), ("within", 0, 2, 3), ("within", 1, 1, 3),
            ("ahead", 0, 1), ("ahead", 0, 2), ("ahead", 2, 0),
        )))

    def test_nothing_to_tidy(self):
        self.assertEqual(tidied((1, ())), (1, ()))
        self.assertEqual(tidied((1, (("within", 0, 1, 1),) * 12)), (1, (("within", 0, 1, 1),)))


class Mirrored(unittest.TestCase):
    def test_point_13_each_constraint(self):
        for items in range(1, 5):
            for one in every_constraint(items):
                if one[0] == "within":
                    other = ("within", one[1], items + 1 - one[3], items + 1 - one[2])
                else:
                    other = ("ahead", one[2], one[1])
                self.assertEqual(mirrored((items, (one,))), (items, (other,)))

    def test_point_13_read_from_the_end(self):
        for problem in small_problems():
            turned = sorted(ranking[::-1] for ranking in good_rankings(problem))
            self.assertEqual(good_rankings(mirrored(problem)), turned)

    def test_point_13_twice(self):
        for problem in small_problems():
            self.assertTrue(is_problem(mirrored(problem)))
            self.assertEqual(mirrored(mirrored(problem)), problem)

    def test_the_sequence_stays(self):
        problem = (4, (("ahead", 3, 1), ("within", 2, 1, 2), ("ahead", 3, 1), ("within", 0, 4, 4)))
        turned = (4, (("ahead", 1, 3), ("within", 2, 3, 4), ("ahead", 1, 3), ("within", 0, 1, 1)))
        self.assertEqual(mirrored(problem), turned)


class Renamed(unittest.TestCase):
    def test_point_14_the_good_rankings_are_renamed(self):
        for problem in small_problems():
            for order in all_rankings(problem[0])[::1 if problem[0] < 4 else 23]:
                other = renamed(problem, order)
                told = sorted(tuple(order[item] for item in ranking) for ranking in good_rankings(problem))
                self.assertEqual(good_rankings(other), told)

    def test_point_14_item_by_item(self):
        problem = (4, (("ahead", 3, 1), ("within", 2, 1, 2), ("ahead", 3, 1), ("within", 0, 4, 4)))
        other = (4, (("ahead", 0, 2), ("within", 3, 1, 2), ("ahead", 0, 2), ("within", 1, 4, 4)))
        self.assertEqual(renamed(problem, (1, 2, 3, 0)), other)
        self.assertEqual(renamed(problem, (0, 1, 2, 3)), problem)

    def test_one_item(self):
        self.assertEqual(renamed((1, (("within", 0, 1, 1),)), (0,)), (1, (("within", 0, 1, 1),)))


class Part(unittest.TestCase):
    def test_point_15_some_constraints_in_their_sequence(self):
        for problem in small_problems()[::5]:
            items, constraints = problem
            good = set(good_rankings(problem))
            for many in range(len(constraints) + 1):
                for indexes in list(combinations(range(len(constraints)), many))[::1 if many < 3 else 41]:
                    some = part(problem, indexes)
                    self.assertEqual(some, (items, tuple(constraints[index] for index in indexes)))
                    self.assertTrue(good <= set(good_rankings(some)))

    def test_point_15_constraints_that_stand_twice(self):
        problem = (2, (("ahead", 0, 1), ("ahead", 1, 0), ("ahead", 0, 1)))
        self.assertEqual(part(problem, (0, 2)), (2, (("ahead", 0, 1), ("ahead", 0, 1))))
        self.assertEqual(part(problem, (1, 2)), (2, (("ahead", 1, 0), ("ahead", 0, 1))))
        self.assertEqual(part(problem, ()), (2, ()))
        self.assertEqual(part((2, ()), ()), (2, ()))

    def test_point_16_the_part_without_what_is_violated(self):
        for problem in small_problems()[::3]:
            for ranking in all_rankings(problem[0])[::1 if problem[0] < 5 else 29]:
                others = set(range(len(problem[1]))) - set(violated(problem, ranking))
                self.assertIn(ranking, good_rankings(part(problem, tuple(sorted(others)))))


class WrongArguments(unittest.TestCase):
    def test_point_17_problem(self):
        for wrong in NO_PROBLEMS + ODD_VALUES:
            self.assertEqual(name_of_wrong(self, tidied, wrong), "problem")
            self.assertEqual(name_of_wrong(self, mirrored, wrong), "problem")
            for second in ((0, 1, 2), (), None):
                self.assertEqual(name_of_wrong(self, renamed, wrong, second), "problem")
                self.assertEqual(name_of_wrong(self, part, wrong, second), "problem")

    def test_point_17_order(self):
        for wrong in NO_RANKINGS_OF_THREE + ODD_VALUES + [(0, 1), (0,), ()]:
            self.assertEqual(name_of_wrong(self, renamed, THREE, wrong), "order")

    def test_point_17_indexes(self):
        for size in range(4):
            for value in product(range(-1, 4), repeat=size):
                if value in ((), (0,), (1,), (0, 1)):
                    self.assertEqual(len(part(THREE, value)[1]), size)
                else:
                    self.assertEqual(name_of_wrong(self, part, THREE, value), "indexes")
        wrongs = [[], [0], (False,), (0, True), (None,), ("0",), (0.0,), 0, "0", (2,), (0, 1, 2), ((0,),)]
        for wrong in wrongs + [value for value in ODD_VALUES if not isinstance(value, tuple) or len(value) > 0]:
            self.assertEqual(name_of_wrong(self, part, THREE, wrong), "indexes")
        for wrong in ((0,), (0, 0)):
            self.assertEqual(name_of_wrong(self, part, (3, ()), wrong), "indexes")

    def test_twelve_constraints_are_let(self):
        full = (7, (("ahead", 6, 5),) * 12)
        self.assertEqual(tidied(full), (7, (("ahead", 6, 5),)))
        self.assertEqual(mirrored(full), (7, (("ahead", 5, 6),) * 12))
        self.assertEqual(renamed(full, (6, 5, 4, 3, 2, 1, 0)), (7, (("ahead", 0, 1),) * 12))
        self.assertEqual(part(full, tuple(range(12))), full)


class TheSameAgain(unittest.TestCase):
    def test_point_2_arguments_stay_and_results_are_equal(self):
        problem = (3, (("ahead", 2, 1), ("within", 0, 1, 2), ("ahead", 2, 1)))
        calls = [(tidied, [problem]), (mirrored, [problem]), (renamed, [problem, (2, 0, 1)]), (part, [problem, (0, 2)])]
        for function, arguments in calls:
            before = copy.deepcopy(arguments)
            first = function(*arguments)
            self.assertEqual(arguments, before)
            self.assertEqual(function(*before), first)


if __name__ == "__main__":
    unittest.main()
