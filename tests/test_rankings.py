"""Points 1 and 42 to 52: good rankings."""

import unittest

from rankswithin.contradictions import contradiction
from rankswithin.formed import mirrored, part
from rankswithin.problems import satisfies
from rankswithin.rankings import (
    accepts_rankings, by_deadlines, can_follow, first_ranking, last_ranking, range_of, rankings_evidence,
)
from support import (
    NO_PROBLEMS, NO_RANKINGS_OF_THREE, ODD_VALUES, all_rankings, beginnings, every_constraint, good_rankings, is_cyclic,
    meets, name_of_wrong, place_by_place, right_contradiction, same, sampled_problems, small_problems, threes,
    tiny_problems, told_windows, variants,
)

THREE = (3, (("within", 2, 1, 2), ("ahead", 2, 0)))
NONE = (2, (("ahead", 0, 1), ("within", 1, 1, 1)))
ROUND = (2, (("ahead", 0, 1), ("ahead", 1, 0)))


def follows_deadlines(problem, ranking):
    """Whether the ranking is as point 44 says."""
    windows = told_windows(problem)
    for ahead, other in enumerate(ranking):
        for item in ranking[ahead + 1:]:
            earlier = windows[item][1] < windows[other][1] or windows[item][1] == windows[other][1] and item < other
            if windows[item][0] <= ahead + 1 and earlier:
                return False
    return True


class ByDeadlines(unittest.TestCase):
    def test_point_42_place_by_place(self):
        for problem in small_problems():
            if good_rankings(problem):
                self.assertEqual(by_deadlines(problem), place_by_place(problem), problem)
                self.assertIsInstance(by_deadlines(problem), tuple)

    def test_point_42_where_a_place_stays_empty_no_ranking_is_good(self):
        empty = 0
        for problem in small_problems():
            if not is_cyclic(problem) and place_by_place(problem) is None:
                self.assertEqual(good_rankings(problem), [])
                self.assertIsNone(by_deadlines(problem))
                empty += 1
        self.assertGreater(empty, 10)

    def test_point_43_good_if_some_ranking_is(self):
        for problem in small_problems():
            good, found = good_rankings(problem), by_deadlines(problem)
            self.assertTrue(found in good if good else found is None, problem)

    def test_point_44_the_only_one_that_follows_deadlines(self):
        for problem in small_problems():
            if problem[0] < 7 and good_rankings(problem):
                found = [one for one in good_rankings(problem) if follows_deadlines(problem, one)]
                self.assertEqual(found, [by_deadlines(problem)], problem)

    def test_point_42_ties_go_to_the_least_item(self):
        for items in range(1, 8):
            self.assertEqual(by_deadlines((items, ())), tuple(range(items)))
        self.assertEqual(by_deadlines((3, (("within", 0, 2, 3), ("within", 2, 1, 2)))), (2, 0, 1))
        self.assertEqual(by_deadlines((3, (("within", 0, 2, 3), ("within", 1, 2, 3)))), (2, 0, 1))

    def test_point_52(self):
        self.assertEqual(by_deadlines(THREE), (2, 0, 1))

    def test_without_a_good_ranking(self):
        for problem in (NONE, ROUND, (2, (("within", 0, 1, 1), ("within", 0, 2, 2)))):
            for function in (by_deadlines, first_ranking, last_ranking):
                self.assertIsNone(function(problem))
            for item in range(problem[0]):
                self.assertIsNone(range_of(problem, item))
            for beginning in beginnings(problem[0]):
                self.assertEqual(can_follow(problem, beginning), ())

    def test_seven_items_and_twelve_constraints(self):
        constraints = tuple(("ahead", item + 1, item) for item in range(6)) + (("within", 6, 1, 1),) * 6
        problem = (7, constraints)
        for function in (by_deadlines, first_ranking, last_ranking):
            self.assertEqual(function(problem), (6, 5, 4, 3, 2, 1, 0))
        self.assertEqual(range_of(problem, 2), (5, 5))
        self.assertEqual(can_follow(problem, (6, 5, 4)), (3,))
        self.assertIs(accepts_rankings(problem, rankings_evidence(problem)), True)


class FirstAndLast(unittest.TestCase):
    def test_point_46_first_and_last_of_all_good_rankings(self):
        for problem in small_problems():
            good = good_rankings(problem)
            self.assertEqual(first_ranking(problem), good[0] if good else None, problem)
            self.assertEqual(last_ranking(problem), good[-1] if good else None, problem)

    def test_point_46_what_can_follow_each_beginning(self):
        for problem in tiny_problems() + threes()[::4] + sampled_problems(3, 30) + sampled_problems(4, 20):
            good = good_rankings(problem)
            for beginning in beginnings(problem[0]):
                size = len(beginning)
                more = {one[size] for one in good if one[:size] == beginning and len(one) > size}
                found = can_follow(problem, beginning)
                self.assertEqual(found, tuple(sorted(more)), (problem, beginning))

    def test_point_46_larger_problems(self):
        for problem in sampled_problems(5, 10) + sampled_problems(6, 4) + sampled_problems(7, 2):
            good = good_rankings(problem)
            for ranking in good[::50] + all_rankings(problem[0])[::700]:
                for size in range(problem[0] + 1):
                    more = {one[size] for one in good if one[:size] == ranking[:size] and len(one) > size}
                    self.assertEqual(can_follow(problem, ranking[:size]), tuple(sorted(more)))

    def test_point_47_a_beginning_and_its_places(self):
        for problem in tiny_problems()[::2] + sampled_problems(3, 20) + sampled_problems(4, 10):
            if len(problem[1]) + problem[0] <= 12:
                good = good_rankings(problem)
                for beginning in beginnings(problem[0]):
                    more = tuple(("within", item, place, place) for place, item in enumerate(beginning, start=1))
                    fixed = (problem[0], problem[1] + more)
                    begins = any(one[:len(beginning)] == beginning for one in good)
                    self.assertIs(by_deadlines(fixed) is not None, begins)
                    if len(beginning) < problem[0]:
                        self.assertIs(can_follow(problem, beginning) != (), begins)

    def test_point_46_full_and_empty_beginnings(self):
        self.assertEqual(can_follow(THREE, (2, 0, 1)), ())
        self.assertEqual(can_follow(THREE, ()), (1, 2))
        self.assertEqual((can_follow((1, ()), ()), can_follow((1, ()), (0,))), ((0,), ()))

    def test_point_50_turned_around(self):
        for problem in small_problems():
            turned = mirrored(problem)
            ends = [ranking[::-1] for ranking in good_rankings(problem)]
            self.assertEqual(first_ranking(turned), min(ends) if ends else None)
            self.assertEqual(last_ranking(turned), max(ends) if ends else None)
            for item in range(problem[0]):
                told = range_of(problem, item)
                if told is not None:
                    told = (problem[0] + 1 - told[1], problem[0] + 1 - told[0])
                self.assertEqual(range_of(turned, item), told)

    def test_point_52(self):
        good = [(1, 2, 0), (2, 0, 1), (2, 1, 0)]
        self.assertEqual([one for one in all_rankings(3) if satisfies(THREE, one)], good)
        self.assertEqual((first_ranking(THREE), last_ranking(THREE)), (good[0], good[-1]))


class Range(unittest.TestCase):
    def test_point_48_least_and_greatest_place(self):
        for problem in small_problems():
            good = good_rankings(problem)
            for item in range(problem[0]):
                found = [ranking.index(item) + 1 for ranking in good]
                expected = (min(found), max(found)) if good else None
                self.assertEqual(range_of(problem, item), expected, (problem, item))

    def test_point_48_within_the_window_but_not_the_same(self):
        smaller = 0
        for problem in small_problems():
            if good_rankings(problem):
                for item, (earliest, latest) in enumerate(told_windows(problem)):
                    least, greatest = range_of(problem, item)
                    self.assertTrue(earliest <= least <= greatest <= latest)
                    smaller += (earliest, latest) != (least, greatest)
        self.assertGreater(smaller, 10)

    def test_point_48_places_between_can_be_missing(self):
        problem = (3, (("within", 1, 2, 2),))
        self.assertEqual(range_of(problem, 0), (1, 3))
        self.assertEqual({ranking.index(0) + 1 for ranking in good_rankings(problem)}, {1, 3})

    def test_point_49_with_more_constraints(self):
        for problem in tiny_problems()[::3] + threes()[::9] + sampled_problems(4, 6):
            before = by_deadlines(problem)
            for more in every_constraint(problem[0]):
                wider = (problem[0], problem[1] + (more,))
                if len(wider[1]) <= 12 and before is not None:
                    self.assertIs(satisfies(wider, before), meets(before, more))
                    for item in range(problem[0]):
                        (low, high), told = range_of(problem, item), range_of(wider, item)
                        self.assertTrue(told is None or low <= told[0] <= told[1] <= high)


class Evidence(unittest.TestCase):
    def test_point_45_told_evidence(self):
        for problem in small_problems():
            if good_rankings(problem):
                expected = ("ranking", by_deadlines(problem))
            else:
                expected = ("contradiction", contradiction(problem))
            self.assertEqual(rankings_evidence(problem), expected)

    def test_points_1_and_45_evidence_of_exactly_one_word_is_accepted(self):
        values = [rankings_evidence(problem) for problem in small_problems()[::17]]
        for problem in small_problems()[::3]:
            good = set(good_rankings(problem))
            told = rankings_evidence(problem)
            self.assertIs(accepts_rankings(problem, told), True)
            for value in values:
                if value[0] == "ranking":
                    self.assertIs(accepts_rankings(problem, value), value[1] in good)
                else:
                    right = right_contradiction(problem, value[1])
                    self.assertIs(accepts_rankings(problem, value), right)
                    self.assertTrue(not right or not good)

    def test_point_45_all_rankings(self):
        for problem in tiny_problems() + threes()[::3] + sampled_problems(4, 20):
            good = set(good_rankings(problem))
            for ranking in all_rankings(problem[0]):
                self.assertIs(accepts_rankings(problem, ("ranking", ranking)), ranking in good)
                self.assertIs(accepts_rankings(problem, ("contradiction", ranking)), False)
                self.assertIs(accepts_rankings(problem, ranking), False)

    def test_point_45_evidence_that_is_changed(self):
        for problem in small_problems()[::40] + [THREE, NONE, ROUND]:
            good = set(good_rankings(problem))
            for value in variants(rankings_evidence(problem)):
                if good:
                    right = any(same(value, ("ranking", ranking)) for ranking in good)
                else:
                    right = value.__class__ is tuple and len(value) == 2 and value[0].__class__ is str
                    right = right and value[0] == "contradiction" and right_contradiction(problem, value[1])
                self.assertIs(accepts_rankings(problem, value), right)

    def test_point_51_values_of_every_kind(self):
        for problem in (THREE, NONE, ROUND, (1, ()), (7, ())):
            for value in ODD_VALUES + [["ranking", (2, 0, 1)], ("ranking", [2, 0, 1]), ("ranking", (2, 0, 1), 0)]:
                self.assertIs(accepts_rankings(problem, value), False)
        for wrong in NO_RANKINGS_OF_THREE + [(2, False, True), (2, 0), (0, 1), (0,)]:
            self.assertIs(accepts_rankings(THREE, ("ranking", wrong)), False)
            self.assertIs(accepts_rankings(THREE, (wrong, (2, 0, 1))), False)
        told = rankings_evidence(NONE)
        for value in (list(told), told + (0,), (told,), told[:1], told[1:], (told[0], list(told[1])), told[1]):
            self.assertIs(accepts_rankings(NONE, value), False)


class WrongArguments(unittest.TestCase):
    def test_point_51_problem(self):
        for wrong in NO_PROBLEMS + ODD_VALUES:
            for function in (by_deadlines, first_ranking, last_ranking, rankings_evidence):
                self.assertEqual(name_of_wrong(self, function, wrong), "problem")
            for value in ((), 0, None):
                for function in (can_follow, range_of, accepts_rankings):
                    self.assertEqual(name_of_wrong(self, function, wrong, value), "problem")

    def test_point_51_beginning(self):
        odd = [value for value in ODD_VALUES if value != () and value != (0,)]
        for problem in (THREE, (3, NONE[1]), (3, ROUND[1])):
            for wrong in NO_RANKINGS_OF_THREE + odd + [(0, 0), (3,), (-1,), (False,), (0.0,), [0], [], None]:
                self.assertEqual(name_of_wrong(self, can_follow, problem, wrong), "beginning")

    def test_point_51_item(self):
        odd = [value for value in ODD_VALUES if value not in (0, 1, 2)] + [True, False, 0.0, -1, 3, "0", (0,), [0]]
        for problem in (THREE, (3, NONE[1]), (3, ROUND[1])):
            for wrong in odd:
                self.assertEqual(name_of_wrong(self, range_of, problem, wrong), "item")

    def test_point_51_cyclic_problems_are_let(self):
        for problem in small_problems():
            if is_cyclic(problem):
                self.assertEqual(can_follow(problem, ()), ())
                self.assertIs(accepts_rankings(problem, rankings_evidence(problem)), True)


class TheSameAgain(unittest.TestCase):
    def test_point_2_arguments_stay_and_results_are_equal(self):
        value = ["ranking", [2, 0, 1]]
        for _ in range(2):
            self.assertEqual(rankings_evidence(THREE), ("ranking", (2, 0, 1)))
            self.assertEqual((can_follow(THREE, (2,)), range_of(THREE, 0)), ((0, 1), (2, 3)))
            self.assertIs(accepts_rankings(THREE, value), False)
            self.assertEqual(value, ["ranking", [2, 0, 1]])

    def test_point_43_of_each_part(self):
        for problem in sampled_problems(4, 10):
            for at in range(len(problem[1])):
                some = part(problem, tuple(range(at)))
                self.assertIs(by_deadlines(some) is None, good_rankings(some) == [])


if __name__ == "__main__":
    unittest.main()
