"""Points 65 to 67 and 70 to 75: counted rankings, and their indexes."""

import unittest
from itertools import permutations
from math import factorial

from rankswithin.contradictions import contradiction
from rankswithin.counting import count_beginning, count_rankings, index_of_ranking, next_ranking, nth_ranking
from rankswithin.formed import mirrored, renamed
from rankswithin.rankings import can_follow, first_ranking, last_ranking
from support import (
    NO_PROBLEMS, NO_RANKINGS_OF_THREE, ODD_VALUES, all_rankings, beginnings, every_constraint, good_rankings,
    is_cyclic, meets, name_of_wrong, not_possible, plus, sampled_problems, small_problems, threes, tiny_problems,
)

FOUR = (4, (("within", 2, 1, 2), ("ahead", 0, 3), ("within", 1, 2, 4)))
THREE = (3, (("within", 2, 1, 2), ("ahead", 2, 0)))
NONE = (3, (("ahead", 0, 1), ("within", 1, 1, 1)))
ROUND = (3, (("ahead", 0, 1), ("ahead", 1, 0)))


class Counts(unittest.TestCase):
    def test_point_65_all_rankings(self):
        for problem in small_problems():
            self.assertEqual(count_rankings(problem), len(good_rankings(problem)), problem)

    def test_point_65_twelve_constraints(self):
        full = 0
        for items in (3, 4, 5, 6):
            for problem in sampled_problems(items, 60):
                if len(problem[1]) == 12:
                    self.assertEqual(count_rankings(problem), len(good_rankings(problem)), problem)
                    full += len(good_rankings(problem)) > 1
        self.assertGreater(full, 5)

    def test_point_72_without_constraints(self):
        for items in range(1, 8):
            self.assertEqual(count_rankings((items, ())), factorial(items))

    def test_point_70_with_a_further_constraint(self):
        for problem in tiny_problems()[::2] + threes()[::9] + sampled_problems(4, 6):
            good = good_rankings(problem)
            for more in every_constraint(problem[0])[::3]:
                wider = plus(problem, more)
                if len(wider[1]) <= 12:
                    self.assertLessEqual(count_rankings(wider), count_rankings(problem))
                    as_many = count_rankings(wider) == count_rankings(problem)
                    self.assertIs(as_many, all(meets(ranking, more) for ranking in good))

    def test_point_71_renamed_and_turned_around(self):
        for problem in small_problems()[::5]:
            many = count_rankings(problem)
            self.assertEqual(count_rankings(mirrored(problem)), many)
            for order in all_rankings(problem[0])[::5]:
                self.assertEqual(count_rankings(renamed(problem, order)), many)

    def test_point_73_none_if_and_only_if_there_is_a_contradiction(self):
        for problem in small_problems():
            self.assertIs(count_rankings(problem) == 0, contradiction(problem) is not None)
        for problem in (NONE, ROUND):
            self.assertEqual(count_rankings(problem), 0)

    def test_cyclic_problems(self):
        cyclic = 0
        for problem in small_problems():
            if is_cyclic(problem):
                self.assertEqual((count_rankings(problem), count_beginning(problem, ())), (0, 0))
                ranking = tuple(range(problem[0]))
                self.assertEqual(count_beginning(problem, ranking), 0)
                self.assertIsNone(index_of_ranking(problem, ranking))
                cyclic += 1
        self.assertGreater(cyclic, 50)

    def test_one_item(self):
        for problem in ((1, ()), (1, (("within", 0, 1, 1),) * 12)):
            self.assertEqual((count_rankings(problem), nth_ranking(problem, 0)), (1, (0,)))
            self.assertEqual((count_beginning(problem, ()), count_beginning(problem, (0,))), (1, 1))
            self.assertEqual(index_of_ranking(problem, (0,)), 0)
            self.assertIsNone(next_ranking(problem, (0,)))


class Beginnings(unittest.TestCase):
    def test_point_66_all_beginnings(self):
        for problem in tiny_problems() + threes()[::4] + sampled_problems(3, 20) + sampled_problems(4, 10):
            good = good_rankings(problem)
            for beginning in beginnings(problem[0]):
                many = sum(ranking[:len(beginning)] == beginning for ranking in good)
                self.assertEqual(count_beginning(problem, beginning), many, (problem, beginning))

    def test_point_66_larger_problems(self):
        for problem in sampled_problems(5, 6) + sampled_problems(6, 2) + sampled_problems(7, 1) + [(7, ())]:
            good = good_rankings(problem)
            for ranking in good[::70] + all_rankings(problem[0])[::900]:
                for size in range(problem[0] + 1):
                    many = sum(one[:size] == ranking[:size] for one in good)
                    self.assertEqual(count_beginning(problem, ranking[:size]), many)

    def test_point_66_the_empty_one_and_whole_ones(self):
        for problem in small_problems()[::5]:
            good = good_rankings(problem)
            self.assertEqual(count_beginning(problem, ()), len(good))
            for ranking in all_rankings(problem[0])[::3]:
                self.assertEqual(count_beginning(problem, ranking), 1 if ranking in good else 0)

    def test_point_66_beginnings_that_no_good_ranking_has(self):
        self.assertEqual([count_beginning(FOUR, one) for one in ((3,), (1,), (0, 1), (0, 3), (2, 3))], [0] * 5)
        # The items of the beginning could come at the first places, but in another sequence.
        problem = (3, (("ahead", 0, 1),))
        self.assertEqual((count_beginning(problem, (1, 0)), count_beginning(problem, (0, 1))), (0, 1))
        problem = (3, (("within", 0, 2, 2),))
        self.assertEqual((count_beginning(problem, (0, 1)), count_beginning(problem, (1, 0))), (0, 1))

    def test_points_66_and_46_what_can_follow(self):
        for problem in threes()[::8] + sampled_problems(4, 4):
            for beginning in beginnings(problem[0]):
                left = [item for item in range(problem[0]) if item not in beginning]
                following = tuple(item for item in left if count_beginning(problem, beginning + (item,)) > 0)
                self.assertEqual(can_follow(problem, beginning), following)

    def test_point_66_seven_items(self):
        for beginning in ((), (6,), (6, 0), (3, 1, 4, 0), (6, 5, 4, 3, 2, 1, 0)):
            self.assertEqual(count_beginning((7, ()), beginning), factorial(7 - len(beginning)))


class Indexes(unittest.TestCase):
    def test_point_65_index_by_index(self):
        for problem in small_problems()[::3] + sampled_problems(4, 10) + sampled_problems(5, 2):
            good = good_rankings(problem)
            for index, ranking in list(enumerate(good))[:130]:
                self.assertEqual(nth_ranking(problem, index), ranking)
                self.assertEqual(index_of_ranking(problem, ranking), index)
                following = good[index + 1] if index + 1 < len(good) else None
                self.assertEqual(next_ranking(problem, ranking), following)

    def test_point_65_rankings_that_are_not_good(self):
        for problem in small_problems()[::4]:
            good = set(good_rankings(problem))
            for ranking in all_rankings(problem[0])[::7 if problem[0] > 5 else 1][:200]:
                if ranking not in good:
                    self.assertIsNone(index_of_ranking(problem, ranking))

    def test_point_65_first_and_last(self):
        for problem in small_problems():
            many = len(good_rankings(problem))
            if many:
                self.assertEqual(nth_ranking(problem, 0), first_ranking(problem))
                self.assertEqual(nth_ranking(problem, many - 1), last_ranking(problem))
                self.assertIsNone(next_ranking(problem, last_ranking(problem)))

    def test_point_65_larger_problems(self):
        for problem in sampled_problems(6, 3) + sampled_problems(7, 2):
            good = good_rankings(problem)
            for index in range(0, len(good), 97):
                self.assertEqual(nth_ranking(problem, index), good[index])
                self.assertEqual(index_of_ranking(problem, good[index]), index)

    def test_points_65_and_72_seven_items_without_constraints(self):
        rankings = list(permutations(range(7)))
        for index in list(range(0, 5040, 131)) + [1, 719, 720, 721, 5038, 5039]:
            self.assertEqual(nth_ranking((7, ()), index), rankings[index])
            self.assertEqual(index_of_ranking((7, ()), rankings[index]), index)
            following = rankings[index + 1] if index < 5039 else None
            self.assertEqual(next_ranking((7, ()), rankings[index]), following)

    def test_point_67_the_same_beginning(self):
        for problem in threes()[::9] + sampled_problems(4, 4):
            good = [nth_ranking(problem, index) for index in range(count_rankings(problem))]
            for beginning in beginnings(problem[0]):
                found = [index for index, one in enumerate(good) if one[:len(beginning)] == beginning]
                self.assertEqual(len(found), count_beginning(problem, beginning))
                if found:
                    self.assertEqual(found, list(range(found[0], found[-1] + 1)))

    def test_point_75(self):
        good = [(0, 2, 1, 3), (0, 2, 3, 1), (2, 0, 1, 3), (2, 0, 3, 1), (2, 1, 0, 3)]
        self.assertEqual(good_rankings(FOUR), good)
        self.assertEqual(count_rankings(FOUR), 5)
        self.assertEqual([nth_ranking(FOUR, index) for index in range(5)], good)
        self.assertEqual((nth_ranking(FOUR, 0), nth_ranking(FOUR, 4)), ((0, 2, 1, 3), (2, 1, 0, 3)))


class WrongArguments(unittest.TestCase):
    def test_point_74_problem(self):
        for wrong in NO_PROBLEMS + ODD_VALUES:
            self.assertEqual(name_of_wrong(self, count_rankings, wrong), "problem")
            for value in (0, (), (0, 1, 2), None):
                for function in (count_beginning, nth_ranking, index_of_ranking, next_ranking):
                    self.assertEqual(name_of_wrong(self, function, wrong, value), "problem")

    def test_point_74_index(self):
        for problem in small_problems()[::9] + [FOUR, THREE, NONE, ROUND, (1, ()), (7, ())]:
            many = len(good_rankings(problem))
            for wrong in (-1, many, many + 1, True, False, None, 0.0, "0", (0,), [0], (), 10 ** 40, -10 ** 40):
                self.assertEqual(name_of_wrong(self, nth_ranking, problem, wrong), "index")
        for wrong in ODD_VALUES:
            if wrong not in (0, 1, 2) or wrong.__class__ is not int:
                self.assertEqual(name_of_wrong(self, nth_ranking, FOUR, wrong), "index")
            self.assertEqual(name_of_wrong(self, nth_ranking, NONE, wrong), "index")

    def test_point_74_ranking(self):
        for problem in (THREE, NONE, ROUND):
            for wrong in NO_RANKINGS_OF_THREE + ODD_VALUES + [(2, False, 1), (True, 0, 2), (2, 0), [2, 0, 1]]:
                self.assertEqual(name_of_wrong(self, index_of_ranking, problem, wrong), "ranking")
                self.assertEqual(name_of_wrong(self, next_ranking, problem, wrong), "ranking")

    def test_point_74_beginning(self):
        odd = [value for value in ODD_VALUES if value != ()]
        for problem in (THREE, NONE, ROUND):
            for wrong in NO_RANKINGS_OF_THREE + odd + [(0, 0), (3,), (-1,), (False,), (True, 0), (0.0,), [0], []]:
                self.assertEqual(name_of_wrong(self, count_beginning, problem, wrong), "beginning")

    def test_point_74_wrong(self):
        for problem in [FOUR, THREE, NONE, ROUND] + small_problems()[::11]:
            good = set(good_rankings(problem))
            for ranking in all_rankings(problem[0])[:200]:
                if ranking not in good:
                    self.assertEqual(not_possible(self, next_ranking, problem, ranking), "wrong")
        self.assertEqual(name_of_wrong(self, next_ranking, NONE, (0, 1, 1)), "ranking")
        self.assertEqual(name_of_wrong(self, next_ranking, (3, NONE[1] * 7), (0, 1, 2)), "problem")


class TheSameAgain(unittest.TestCase):
    def test_point_2_results_are_equal(self):
        for _ in range(2):
            self.assertEqual((count_rankings(FOUR), nth_ranking(FOUR, 1)), (5, (0, 2, 3, 1)))
            self.assertEqual((index_of_ranking(FOUR, (0, 2, 3, 1)), count_beginning(FOUR, (2,))), (1, 3))
            self.assertEqual(next_ranking(FOUR, (0, 2, 3, 1)), (2, 0, 1, 3))


if __name__ == "__main__":
    unittest.main()
