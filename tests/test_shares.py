"""Points 68, 69, 74 and 75: how many of the good rankings have an item at a place, or ahead of another one."""

import unittest
from math import factorial

from rankswithin.formed import mirrored
from rankswithin.shares import count_ahead, place_counts
from support import NO_PROBLEMS, ODD_VALUES, good_rankings, is_cyclic, name_of_wrong, sampled_problems, small_problems

FOUR = (4, (("within", 2, 1, 2), ("ahead", 0, 3), ("within", 1, 2, 4)))
NONE = (3, (("ahead", 0, 1), ("within", 1, 1, 1)))
ROUND = (3, (("ahead", 0, 1), ("ahead", 1, 0)))


class PlaceCounts(unittest.TestCase):
    def test_point_68_all_rankings(self):
        for problem in small_problems():
            good = good_rankings(problem)
            for item in range(problem[0]):
                found = place_counts(problem, item)
                self.assertIsInstance(found, tuple)
                expected = tuple(sum(one[at] == item for one in good) for at in range(problem[0]))
                self.assertEqual(found, expected, (problem, item))
                self.assertEqual(sum(found), len(good))

    def test_point_68_twelve_constraints(self):
        full = [problem for problem in sampled_problems(5, 60) if len(problem[1]) == 12 and good_rankings(problem)]
        self.assertGreater(len(full), 2)
        for problem in full:
            for item in range(5):
                expected = tuple(sum(one[at] == item for one in good_rankings(problem)) for at in range(5))
                self.assertEqual(place_counts(problem, item), expected)

    def test_points_68_and_71_turned_around(self):
        for problem in small_problems()[::6]:
            for item in range(problem[0]):
                self.assertEqual(place_counts(mirrored(problem), item), place_counts(problem, item)[::-1])

    def test_point_68_without_constraints(self):
        for items in range(1, 8):
            self.assertEqual(place_counts((items, ()), items - 1), (factorial(items - 1),) * items)

    def test_point_68_without_a_good_ranking(self):
        for problem in (NONE, ROUND):
            self.assertEqual([place_counts(problem, item) for item in range(3)], [(0, 0, 0)] * 3)

    def test_point_75(self):
        found = [place_counts(FOUR, item) for item in range(4)]
        self.assertEqual(found, [(2, 2, 1, 0), (0, 1, 2, 2), (3, 2, 0, 0), (0, 0, 2, 3)])


class CountAhead(unittest.TestCase):
    def test_point_69_all_rankings(self):
        for problem in small_problems():
            good = good_rankings(problem)
            for one in range(problem[0]):
                for other in range(problem[0]):
                    if one != other:
                        expected = sum(ranking.index(one) < ranking.index(other) for ranking in good)
                        self.assertEqual(count_ahead(problem, one, other), expected, (problem, one, other))

    def test_point_69_they_make_up_all(self):
        for problem in small_problems():
            for other in range(1, problem[0]):
                both = count_ahead(problem, 0, other) + count_ahead(problem, other, 0)
                self.assertEqual(both, len(good_rankings(problem)))

    def test_point_69_twelve_constraints(self):
        problem = (4, FOUR[1] * 4)
        self.assertEqual([count_ahead(problem, *pair) for pair in ((3, 1), (1, 3), (0, 3))], [2, 3, 5])

    def test_point_69_without_a_good_ranking(self):
        self.assertEqual((count_ahead(NONE, 0, 1), count_ahead(ROUND, 0, 1), count_ahead(ROUND, 1, 2)), (0, 0, 0))
        for problem in small_problems():
            if is_cyclic(problem):
                self.assertEqual((count_ahead(problem, 0, 1), count_ahead(problem, 1, 0)), (0, 0))

    def test_point_72_without_constraints(self):
        for items in range(2, 8):
            self.assertEqual(count_ahead((items, ()), items - 1, 0), factorial(items) // 2)


class WrongArguments(unittest.TestCase):
    def no_items(self):
        """Values that are no item of three."""
        odd = [value for value in ODD_VALUES if value not in (0, 1, 2)]
        return odd + [True, False, 0.0, 1.0, -1, 3, 10 ** 40, "0", (0,), [0]]

    def test_point_74_problem(self):
        for wrong in NO_PROBLEMS + ODD_VALUES:
            for item in (0, 8, None):
                self.assertEqual(name_of_wrong(self, place_counts, wrong, item), "problem")
                self.assertEqual(name_of_wrong(self, count_ahead, wrong, item, item), "problem")

    def test_point_74_item(self):
        for problem in ((3, ()), NONE, ROUND):
            for wrong in self.no_items():
                self.assertEqual(name_of_wrong(self, place_counts, problem, wrong), "item")

    def test_point_74_one_and_other(self):
        for problem in ((3, ()), NONE, ROUND):
            for wrong in self.no_items():
                for other in (0, 3, wrong):
                    self.assertEqual(name_of_wrong(self, count_ahead, problem, wrong, other), "one")
                for one in range(3):
                    self.assertEqual(name_of_wrong(self, count_ahead, problem, one, wrong), "other")
            for item in range(3):
                self.assertEqual(name_of_wrong(self, count_ahead, problem, item, item), "other")
        self.assertEqual(name_of_wrong(self, count_ahead, (1, ()), 0, 0), "other")
        self.assertEqual(name_of_wrong(self, count_ahead, (1, ()), 1, 0), "one")


class TheSameAgain(unittest.TestCase):
    def test_point_2_results_are_equal(self):
        for _ in range(2):
            self.assertEqual((place_counts(FOUR, 1), count_ahead(FOUR, 3, 1)), ((0, 1, 2, 2), 2))
        self.assertEqual(FOUR, (4, (("within", 2, 1, 2), ("ahead", 0, 3), ("within", 1, 2, 4))))


if __name__ == "__main__":
    unittest.main()
