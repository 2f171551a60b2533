"""Points 19 to 29: windows, and the evidence for them."""

import unittest
from itertools import product

from rankswithin.formed import mirrored
from rankswithin.windows import accepts_high, accepts_low, lower, upper, window
from support import (
    NO_PROBLEMS, ODD_VALUES, all_chains, chains_up_to, every_constraint, good_rankings, high_by, is_cyclic, low_by,
    name_of_wrong, not_possible, right_chain, sampled_problems, small_problems, threes, tiny_problems, told_lower,
    told_upper, told_windows, variants,
)

CHAINED = (3, (("ahead", 0, 1), ("ahead", 1, 2), ("within", 2, 1, 2)))
ROUND = (3, (("ahead", 2, 0), ("ahead", 0, 1), ("ahead", 1, 2), ("ahead", 1, 0)))
ROW = tuple(("ahead", item, item + 1) for item in range(6))
NO_ITEMS = [-1, 3, 7, 10 ** 40, True, False, None, "0", "", 0.0, (0,), [0], (), []]
NO_BOUNDS = [-21, 21, 10 ** 40, -10 ** 40, True, False, None, "1", 1.0, (1,), [1], ()]


def open_problems():
    """The small problems that are not cyclic."""
    return [problem for problem in small_problems() if not is_cyclic(problem)]


def proves_low(problem, item, low, value):
    """Whether the value is evidence for the low place (point 24)."""
    return right_chain(problem, value) and value[-1] == item and low_by(problem, value) >= low


def proves_high(problem, item, high, value):
    """Whether the value is evidence for the high place (point 24)."""
    return right_chain(problem, value) and value[0] == item and high_by(problem, value) <= high


class Window(unittest.TestCase):
    def test_points_19_and_22_by_all_chains(self):
        for problem in open_problems():
            found = [window(problem, item) for item in range(problem[0])]
            self.assertEqual(found, told_windows(problem), problem)

    def test_point_19_bounds_of_an_item(self):
        problem = (5, (("within", 0, 2, 4), ("within", 0, 1, 3), ("within", 0, 2, 5), ("within", 1, 3, 3)))
        self.assertEqual([window(problem, item) for item in range(5)], [(2, 3), (3, 3), (1, 5), (1, 5), (1, 5)])
        self.assertEqual(window((3, (("within", 0, 3, 3), ("within", 0, 1, 1))), 0), (3, 1))
        self.assertEqual(window((1, ()), 0), (1, 1))

    def test_point_22_beyond_the_places(self):
        late = (7, ROW + (("within", 0, 7, 7),))
        self.assertEqual([window(late, item)[0] for item in range(7)], [7, 8, 9, 10, 11, 12, 13])
        early = (7, ROW + (("within", 6, 1, 1),))
        self.assertEqual([window(early, item)[1] for item in range(7)], [-5, -4, -3, -2, -1, 0, 1])
        self.assertEqual(window((7, ROW + (("within", 6, 1, 1), ("within", 0, 7, 7))), 3), (10, -2))
        self.assertEqual(window((2, (("ahead", 0, 1), ("within", 0, 2, 2))), 1), (3, 2))
        self.assertEqual(window((2, (("ahead", 0, 1), ("within", 1, 1, 1))), 0), (1, 0))
        for problem in (late, early):
            self.assertEqual(good_rankings(problem), [])

    def test_point_22_then_no_ranking_is_good(self):
        beyond = 0
        for problem in open_problems():
            windows = [window(problem, item) for item in range(problem[0])]
            if any(earliest > problem[0] or latest <= 0 for earliest, latest in windows):
                self.assertEqual(good_rankings(problem), [])
                beyond += 1
        self.assertGreater(beyond, 10)

    def test_point_23_good_rankings_keep_to_the_windows(self):
        for problem in open_problems():
            for item in range(problem[0]):
                earliest, latest = window(problem, item)
                for ranking in good_rankings(problem):
                    self.assertTrue(earliest <= ranking.index(item) + 1 <= latest)

    def test_point_23_the_window_does_not_know_what_is_due_together(self):
        problem = (3, (("within", 0, 1, 2), ("within", 1, 1, 2)))
        self.assertEqual(window(problem, 2), (1, 3))
        self.assertEqual({ranking.index(2) for ranking in good_rankings(problem)}, {2})

    def test_point_27_further_constraints(self):
        for problem in tiny_problems() + threes()[::4] + sampled_problems(4, 20):
            for more in every_constraint(problem[0]):
                wider = (problem[0], problem[1] + (more,))
                if len(wider[1]) <= 12 and not is_cyclic(wider):
                    for item in range(problem[0]):
                        (earliest, latest), (low, high) = window(problem, item), window(wider, item)
                        self.assertTrue(low >= earliest and high <= latest)

    def test_point_27_turned_around(self):
        for problem in open_problems():
            turned = mirrored(problem)
            for item in range(problem[0]):
                earliest, latest = window(problem, item)
                expected = (problem[0] + 1 - latest, problem[0] + 1 - earliest)
                self.assertEqual(window(turned, item), expected)

    def test_point_29(self):
        self.assertEqual([window(CHAINED, item) for item in range(3)], [(1, 0), (2, 1), (3, 2)])
        self.assertEqual(good_rankings(CHAINED), [])
        for at in range(3):
            self.assertNotEqual(good_rankings((3, CHAINED[1][:at] + CHAINED[1][at + 1:])), [])

    def test_seven_items_and_twelve_constraints(self):
        problem = (7, ROW + (("within", 3, 3, 6),) * 6)
        self.assertEqual(window(problem, 0), (1, 1))
        self.assertEqual(window(problem, 6), (7, 7))
        self.assertEqual(lower(problem, 6), (0, 1, 2, 3, 4, 5, 6))
        self.assertEqual(upper(problem, 0), (0, 1, 2, 3, 4, 5, 6))


class Chains(unittest.TestCase):
    def test_point_26_lower_and_upper_by_all_chains(self):
        for problem in open_problems():
            for item in range(problem[0]):
                self.assertEqual(lower(problem, item), told_lower(problem, item), (problem, item))
                self.assertEqual(upper(problem, item), told_upper(problem, item), (problem, item))

    def test_point_26_they_are_evidence_for_the_window(self):
        for problem in open_problems():
            for item in range(problem[0]):
                earliest, latest = window(problem, item)
                below, above = lower(problem, item), upper(problem, item)
                self.assertEqual((below.__class__, above.__class__), (tuple, tuple))
                self.assertIs(accepts_low(problem, item, earliest, below), True)
                self.assertIs(accepts_low(problem, item, earliest + 1, below), False)
                self.assertIs(accepts_high(problem, item, latest, above), True)
                self.assertIs(accepts_high(problem, item, latest - 1, above), False)

    def test_point_26_a_chain_begins_where_the_given_low_is_the_earliest_place(self):
        problem = (4, (("ahead", 0, 1), ("ahead", 1, 2), ("within", 1, 2, 4), ("within", 2, 1, 3)))
        self.assertEqual((lower(problem, 2), lower(problem, 1)), ((1, 2), (1,)))
        self.assertEqual((upper(problem, 0), upper(problem, 3)), ((0, 1, 2), (3,)))
        problem = (4, (("ahead", 0, 1), ("ahead", 1, 2), ("within", 1, 1, 3)))
        self.assertEqual((upper(problem, 0), upper(problem, 1)), ((0, 1), (1,)))

    def test_point_26_the_least_item_of_several(self):
        problem = (5, (("ahead", 3, 4), ("ahead", 1, 4), ("ahead", 2, 3), ("ahead", 2, 1), ("ahead", 0, 4)))
        self.assertEqual((lower(problem, 4), upper(problem, 2)), ((2, 1, 4), (2, 1, 4)))


class Judges(unittest.TestCase):
    def test_points_20_and_24_all_short_tuples(self):
        places = (-20, -3, 0, 1, 2, 3, 4, 5, 6, 20)
        for problem in threes()[::9] + sampled_problems(3, 8):
            for size in range(6):
                for value in product(range(3), repeat=size):
                    place = places[sum(value) * size % len(places)]
                    for item in range(3):
                        right = proves_low(problem, item, place, value)
                        self.assertIs(accepts_low(problem, item, place, value), right)
                        right = proves_high(problem, item, place, value)
                        self.assertIs(accepts_high(problem, item, place, value), right)

    def test_point_24_all_chains_of_whatever_writer(self):
        for problem in small_problems()[::4]:
            for value in chains_up_to(problem, 4):
                low, high = low_by(problem, value), high_by(problem, value)
                for step in (-1, 0, 1):
                    self.assertIs(accepts_low(problem, value[-1], low + step, value), step <= 0)
                    self.assertIs(accepts_high(problem, value[0], high + step, value), step >= 0)
                if value[0] != value[-1]:
                    self.assertIs(accepts_low(problem, value[0], -20, value), False)
                    self.assertIs(accepts_high(problem, value[-1], 20, value), False)

    def test_point_24_evidence_that_is_changed(self):
        for problem in (CHAINED, ROUND, (7, ROW)) + tuple(open_problems()[::60]):
            for value in chains_up_to(problem, 4)[::3]:
                low, high = low_by(problem, value), high_by(problem, value)
                for other in variants(value):
                    right = proves_low(problem, value[-1], low, other)
                    self.assertIs(accepts_low(problem, value[-1], low, other), right)
                    right = proves_high(problem, value[0], high, other)
                    self.assertIs(accepts_high(problem, value[0], high, other), right)

    def test_point_24_evidence_that_is_cut_turned_or_doubled(self):
        for wrong in ((2,), (1, 2), (0, 1), (2, 1, 0), (0, 1, 2, 2), (0, 1, 2, 0, 1, 2), (0, 2), ()):
            self.assertIs(accepts_low(CHAINED, 2, 3, wrong), False)
        for wrong in ((0,), (0, 1), (1, 2), (2, 1, 0), (0, 0, 1, 2), (0, 1, 2, 0, 1, 2), (0, 2), ()):
            self.assertIs(accepts_high(CHAINED, 0, 0, wrong), False)
        self.assertIs(accepts_low(CHAINED, 2, 3, (0, 1, 2)), True)
        self.assertIs(accepts_high(CHAINED, 0, 0, (0, 1, 2)), True)

    def test_points_20_and_28_chains_around_a_cycle(self):
        for times in range(30):
            below, above = (2, 0, 1) * times + (2,), (2, 0, 1) * times + (2,)
            for place in (-20, -19, 0, 1, 3, 19, 20):
                self.assertIs(accepts_low(ROUND, 2, place, below), 1 + 3 * times >= place)
                self.assertIs(accepts_high(ROUND, 2, place, above), 3 - 3 * times <= place)

    def test_point_24_whoever_wrote_the_evidence_it_is_so(self):
        for problem in threes()[::5] + sampled_problems(4, 10):
            good = good_rankings(problem)
            for value in chains_up_to(problem, 4):
                for place in range(-1, problem[0] + 3):
                    if accepts_low(problem, value[-1], place, value):
                        self.assertTrue(all(ranking.index(value[-1]) + 1 >= place for ranking in good))
                    if accepts_high(problem, value[0], place, value):
                        self.assertTrue(all(ranking.index(value[0]) + 1 <= place for ranking in good))

    def test_point_25_evidence_if_and_only_if_the_window_says_so(self):
        for problem in open_problems()[::5]:
            chains = all_chains(problem)
            for item in range(problem[0]):
                earliest, latest = window(problem, item)
                for place in (-20, 0, 1, earliest - 1, earliest, earliest + 1, latest - 1, latest, latest + 1, 20):
                    found = any([accepts_low(problem, item, place, chain) for chain in chains])
                    self.assertIs(found, earliest >= place)
                    found = any([accepts_high(problem, item, place, chain) for chain in chains])
                    self.assertIs(found, latest <= place)

    def test_point_28_values_of_every_kind(self):
        values = [[0, 1, 2], (0, 1, True), (False, 1, 2), ("0", "1"), (0, 1, 2, None), (0, 1, 2.0), ((0, 1, 2),)]
        for problem in (CHAINED, ROUND, (3, ())):
            for item in range(3):
                for value in ODD_VALUES + values:
                    self.assertIs(accepts_low(problem, item, -20, value), False)
                    self.assertIs(accepts_high(problem, item, 20, value), False)


class WrongArguments(unittest.TestCase):
    def test_point_28_problem(self):
        for wrong in NO_PROBLEMS + ODD_VALUES:
            for item in (0, None):
                for function in (window, lower, upper):
                    self.assertEqual(name_of_wrong(self, function, wrong, item), "problem")
                for function in (accepts_low, accepts_high):
                    self.assertEqual(name_of_wrong(self, function, wrong, item, item, item), "problem")

    def test_point_28_item(self):
        for problem in (CHAINED, ROUND):
            for wrong in NO_ITEMS + [value for value in ODD_VALUES if value not in (0, 1, 2)]:
                for function in (window, lower, upper):
                    self.assertEqual(name_of_wrong(self, function, problem, wrong), "item")
                for place in (1, 21, None):
                    for function in (accepts_low, accepts_high):
                        self.assertEqual(name_of_wrong(self, function, problem, wrong, place, (0,)), "item")

    def test_point_28_low_and_high(self):
        for problem in (CHAINED, ROUND):
            for wrong in NO_BOUNDS + [value for value in ODD_VALUES if value not in (0, 1, 2, -1, 8)]:
                for value in ((0,), None):
                    self.assertEqual(name_of_wrong(self, accepts_low, problem, 0, wrong, value), "low")
                    self.assertEqual(name_of_wrong(self, accepts_high, problem, 0, wrong, value), "high")
            for place in (-20, 20):
                self.assertIs(accepts_low(problem, 0, place, (0,)), place == -20)
                self.assertIs(accepts_high(problem, 0, place, (0,)), place == 20)

    def test_point_28_cyclic(self):
        for problem in small_problems():
            if is_cyclic(problem):
                for function in (window, lower, upper):
                    self.assertEqual(not_possible(self, function, problem, 0), "cyclic")

    def test_point_28_the_judges_take_cyclic_problems(self):
        self.assertIs(accepts_low(ROUND, 0, 2, (2, 0)), True)
        self.assertIs(accepts_high(ROUND, 2, 2, (2, 0)), True)


class TheSameAgain(unittest.TestCase):
    def test_point_2_arguments_stay_and_results_are_equal(self):
        value = [0, [1], (2,)]
        for _ in range(2):
            self.assertEqual((window(CHAINED, 1), lower(CHAINED, 2), upper(CHAINED, 0)), ((2, 1), (0, 1, 2), (0, 1, 2)))
            self.assertIs(accepts_low(CHAINED, 0, 1, value), False)
            self.assertIs(accepts_high(CHAINED, 0, 1, value), False)
            self.assertEqual(value, [0, [1], (2,)])


if __name__ == "__main__":
    unittest.main()
