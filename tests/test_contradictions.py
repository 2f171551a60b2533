"""Points 30 to 41: intervals and contradictions."""

import unittest
from itertools import permutations, product

from rankswithin.contradictions import accepts_contradiction, contradiction, due, tight
from rankswithin.formed import mirrored, part
from support import (
    NO_PROBLEMS, ODD_VALUES, all_chains, chains_up_to, due_items, every_interval, good_rankings, is_cyclic,
    name_of_wrong, not_possible, right_contradiction, room, rows_by_others, sampled_problems, small_problems,
    tiny_problems, told_contradiction, told_windows, variants,
)

THREE = (3, (("within", 0, 1, 2), ("within", 1, 1, 2), ("within", 2, 1, 2)))
CHAINED = (3, (("ahead", 0, 1), ("ahead", 1, 2), ("within", 2, 1, 2)))
ROUND = (2, (("ahead", 0, 1), ("ahead", 1, 0)))
PLAIN_ROWS = ((0, (0,), (0,)), (1, (1,), (1,)), (2, (2,), (2,)))


def open_problems():
    """The small problems that are not cyclic."""
    return [problem for problem in small_problems() if not is_cyclic(problem)]


def hopeless_problems():
    """The small problems without a good ranking."""
    return [problem for problem in small_problems() if not good_rankings(problem)]


class Due(unittest.TestCase):
    def test_point_30_all_intervals(self):
        for problem in open_problems():
            for low, high in every_interval(problem[0]):
                found = due(problem, low, high)
                self.assertIsInstance(found, tuple)
                self.assertEqual(found, due_items(problem, low, high), (problem, low, high))

    def test_point_30_intervals_without_places(self):
        problem = (3, (("ahead", 0, 1), ("within", 0, 3, 3), ("within", 1, 1, 1)))
        self.assertEqual((due(problem, 3, 0), due(problem, 3, 1)), ((0,), (0, 1)))
        self.assertEqual((due(problem, 4, 0), due(problem, 4, 1)), ((), (1,)))
        problem = (3, (("ahead", 0, 1), ("ahead", 1, 2), ("within", 0, 3, 3), ("within", 2, 1, 1)))
        self.assertEqual((due(problem, 4, 0), due(problem, 1, 0), due(problem, 4, 3)), ((1,), (0, 1), (1, 2)))
        self.assertEqual(due((3, ()), 4, 0), ())
        self.assertEqual(due((3, ()), 1, 3), (0, 1, 2))

    def test_point_39_an_empty_window(self):
        empty = 0
        for problem in open_problems():
            for item, (earliest, latest) in enumerate(told_windows(problem)):
                if latest < earliest:
                    intervals = [one for one in every_interval(problem[0]) if room(*one) == 0]
                    self.assertTrue(any(item in due(problem, low, high) for low, high in intervals), problem)
                    empty += 1
        self.assertGreater(empty, 50)


class Tight(unittest.TestCase):
    def test_point_31_all_intervals(self):
        for problem in open_problems():
            expected = []
            for low, high in every_interval(problem[0]):
                items = due_items(problem, low, high)
                if room(low, high) >= 1 and len(items) == room(low, high):
                    expected.append((low, high, items))
            self.assertEqual(tight(problem), tuple(expected), problem)

    def test_point_35_the_places_of_a_tight_interval(self):
        for problem in open_problems():
            for low, high, items in tight(problem):
                for ranking in good_rankings(problem):
                    self.assertEqual(tuple(sorted(ranking[low - 1:high])), items)

    def test_point_37_turned_around(self):
        for problem in open_problems():
            items, turned = problem[0], mirrored(problem)
            expected = sorted((items + 1 - high, items + 1 - low, inside) for low, high, inside in tight(problem))
            self.assertEqual(tight(turned), tuple(expected))
            for low, high in every_interval(items):
                self.assertEqual(due(turned, items + 1 - high, items + 1 - low), due(problem, low, high))

    def test_point_38_intervals_with_a_place_in_common(self):
        for problem in open_problems():
            if good_rankings(problem):
                found = {(low, high) for low, high, _ in tight(problem)}
                for low, high in found:
                    for lower, higher in found:
                        if max(low, lower) <= min(high, higher):
                            self.assertIn((min(low, lower), max(high, higher)), found)
                            self.assertIn((max(low, lower), min(high, higher)), found)

    def test_one_item(self):
        self.assertEqual(tight((1, ())), ((1, 1, (0,)),))
        self.assertEqual(tight((3, ())), ((1, 3, (0, 1, 2)),))


class ToldContradiction(unittest.TestCase):
    def test_point_33_step_by_step(self):
        for problem in open_problems():
            self.assertEqual(contradiction(problem), told_contradiction(problem), problem)

    def test_point_33_cyclic_problems(self):
        for problem in small_problems():
            if is_cyclic(problem):
                self.assertEqual(contradiction(problem), told_contradiction(problem))

    def test_point_33_a_cycle_comes_before_an_interval(self):
        problem = (3, THREE[1] + ROUND[1])
        self.assertEqual(contradiction(problem), ("cycle", (0, 1, 0)))

    def test_point_33_the_least_low_and_then_the_least_high(self):
        problem = (4, (("within", 3, 3, 3), ("within", 2, 3, 3), ("within", 1, 2, 2), ("within", 0, 2, 2)))
        rows = ((0, (0,), (0,)), (1, (1,), (1,)), (2, (2,), (2,)), (3, (3,), (3,)))
        self.assertEqual(contradiction(problem), ("overfull", 1, 3, rows))
        problem = (4, problem[1][:2] + (("within", 1, 1, 1), ("within", 0, 1, 1)))
        self.assertEqual(contradiction(problem), ("overfull", 1, 1, rows[:2]))
        problem = (4, (("within", 0, 4, 4), ("within", 0, 2, 2)))
        self.assertEqual(contradiction(problem), ("overfull", 3, 2, rows[:1]))

    def test_points_32_and_34_if_and_only_if_no_ranking_is_good(self):
        for problem in small_problems():
            told = contradiction(problem)
            self.assertIs(told is None, bool(good_rankings(problem)), problem)
            if told is not None:
                self.assertIs(accepts_contradiction(problem, told), True)

    def test_point_34_not_cyclic_and_no_interval_overfull(self):
        for problem in small_problems():
            fits = not is_cyclic(problem)
            if fits:
                fits = all(len(due(problem, low, high)) <= room(low, high) for low, high in every_interval(problem[0]))
            self.assertIs(bool(good_rankings(problem)), fits)

    def test_point_41(self):
        self.assertEqual(contradiction(THREE), ("overfull", 1, 2, PLAIN_ROWS))
        self.assertEqual(due(CHAINED, 1, 0), (0,))
        self.assertEqual(contradiction(CHAINED), ("overfull", 1, 0, ((0, (0,), (0, 1, 2)),)))

    def test_seven_items_and_twelve_constraints(self):
        problem = (7, tuple(("within", item, 1, 6) for item in range(7)) + (("ahead", 6, 5),) * 5)
        self.assertEqual(contradiction(problem)[:3], ("overfull", 1, 6))
        self.assertIs(accepts_contradiction(problem, contradiction(problem)), True)
        problem = (7, problem[1][:6] + (("ahead", 6, 0),) * 6)
        self.assertEqual((due(problem, 1, 5), due(problem, 1, 6)), ((6,), (0, 1, 2, 3, 4, 5, 6)))
        self.assertEqual(contradiction(problem)[3][6], (6, (6,), (6, 0)))


class Judge(unittest.TestCase):
    def test_point_32_other_intervals_and_chains(self):
        accepted = 0
        for problem in small_problems()[::7] + hopeless_problems()[::5]:
            chains = chains_up_to(problem, 4)
            for low, high in product(range(-2, problem[0] + 4), repeat=2):
                rows = rows_by_others(problem, low, high, chains)
                value = ("overfull", low, high, rows)
                self.assertIs(accepts_contradiction(problem, value), len(rows) > room(low, high), (problem, value))
                accepted += len(rows) > room(low, high)
        self.assertGreater(accepted, 500)

    def test_point_32_rows_turned_doubled_or_left_out(self):
        row = PLAIN_ROWS
        self.assertIs(accepts_contradiction(THREE, ("overfull", 1, 2, row)), True)
        for wrong in ((row[1], row[0], row[2]), (row[0], row[2], row[1]), (row[2], row[1], row[0]), row[:2], row[1:],
                      (row[0], row[0], row[1]), (row[0], row[1], row[1]), row + row, row + row[2:], (), row[:1] * 3):
            self.assertIs(accepts_contradiction(THREE, ("overfull", 1, 2, wrong)), False)

    def test_point_32_the_same_item_by_different_chains(self):
        problem = (2, (("within", 0, 1, 1), ("ahead", 0, 1), ("within", 1, 2, 2)))
        self.assertEqual(good_rankings(problem), [(0, 1)])
        first = ((0, (0,), (0,)), (0, (0,), (0, 1)))
        second = ((1, (0, 1), (1,)), (1, (1,), (1,)))
        for place, rows in ((1, first), (1, first[::-1]), (2, second), (2, second[::-1])):
            self.assertIs(accepts_contradiction(problem, ("overfull", place, place, rows)), False)
        crowded = (2, problem[1] + (("within", 1, 1, 1),))
        self.assertIs(accepts_contradiction(crowded, ("overfull", 1, 1, ((0, (0,), (0, 1)), (1, (1,), (1,))))), True)

    def test_point_32_some_of_the_rows_are_enough(self):
        problem = (4, tuple(("within", item, 1, 2) for item in range(4)))
        rows = tuple((item, (item,), (item,)) for item in range(4))
        for some in (rows, rows[:3], rows[1:], rows[:2] + rows[3:]):
            self.assertIs(accepts_contradiction(problem, ("overfull", 1, 2, some)), True)
        for some in (rows[:2], rows[2:], rows[::-1]):
            self.assertIs(accepts_contradiction(problem, ("overfull", 1, 2, some)), False)

    def test_point_32_evidence_for_the_bounds(self):
        row = (2, (0, 1, 2), (2,))
        self.assertIs(accepts_contradiction(CHAINED, ("overfull", 3, 2, (row,))), True)
        self.assertIs(accepts_contradiction(CHAINED, ("overfull", 3, -20, (row,))), False)
        self.assertIs(accepts_contradiction(CHAINED, ("overfull", 4, 2, (row,))), False)
        self.assertIs(accepts_contradiction(CHAINED, ("overfull", 3, 2, ((2, (2,), (0, 1, 2)),))), False)
        self.assertIs(accepts_contradiction(CHAINED, ("overfull", 3, 2, ((1, (0, 1, 2), (2,)),))), False)
        self.assertIs(accepts_contradiction(CHAINED, ("overfull", 3, 2, ((2, (1, 2), (2,)),))), False)

    def test_point_32_bounds_from_minus_20_to_20(self):
        row = (0, (0, 1) * 20 + (0,), (0, 1) * 20 + (0,))
        for low, high in product((-21, -20, 0, 20, 21), repeat=2):
            right = -20 <= low <= 20 and -20 <= high <= 20 and high < low
            self.assertIs(accepts_contradiction(ROUND, ("overfull", low, high, (row,))), right, (low, high))
        both = (row, (1, (1, 0) * 20 + (1,), (1, 0) * 20 + (1,)))
        self.assertIs(accepts_contradiction(ROUND, ("overfull", 20, 20, both)), True)
        self.assertIs(accepts_contradiction(ROUND, ("overfull", -20, -20, both)), True)
        self.assertIs(accepts_contradiction(ROUND, ("overfull", 19, 20, both)), False)

    def test_point_32_bounds_are_integers(self):
        for wrong in (True, False, None, "1", 1.0, (1,), [1]):
            self.assertIs(accepts_contradiction(THREE, ("overfull", wrong, 2, PLAIN_ROWS)), False)
            self.assertIs(accepts_contradiction(THREE, ("overfull", 1, wrong, PLAIN_ROWS)), False)
        crowded = (2, (("within", 0, 1, 1), ("within", 1, 1, 1)))
        self.assertIs(accepts_contradiction(crowded, ("overfull", 1, 1, PLAIN_ROWS[:2])), True)
        for low, high in ((True, 1), (1, True), (True, True)):
            self.assertIs(accepts_contradiction(crowded, ("overfull", low, high, PLAIN_ROWS[:2])), False)

    def test_point_32_contradictions_that_are_changed(self):
        accepted = 0
        for problem in hopeless_problems()[::9]:
            for value in variants(contradiction(problem)):
                right = right_contradiction(problem, value)
                self.assertIs(accepts_contradiction(problem, value), right)
                accepted += right
        self.assertGreater(accepted, 50)

    def test_point_32_whoever_wrote_it_no_ranking_is_good(self):
        values = [contradiction(problem) for problem in hopeless_problems()[::6]]
        for problem in small_problems()[::11]:
            for value in values:
                right = right_contradiction(problem, value)
                self.assertIs(accepts_contradiction(problem, value), right)
                if right:
                    self.assertEqual(good_rankings(problem), [])

    def test_point_36_contradictions_of_some_of_the_constraints(self):
        for problem in hopeless_problems()[::4]:
            many = len(problem[1])
            for at in range(many):
                less = part(problem, tuple(index for index in range(many) if index != at))
                told = contradiction(less)
                if told is not None:
                    self.assertIs(accepts_contradiction(problem, told), True)
                    for order in (problem[1][::-1], problem[1][at:] + problem[1][:at]):
                        self.assertIs(accepts_contradiction((problem[0], order), told), True)
        for order in permutations(CHAINED[1]):
            told = contradiction((3, order))
            self.assertEqual(told, contradiction(CHAINED))
            self.assertIs(accepts_contradiction((3, order + (("ahead", 2, 0),)), told), True)

    def test_point_40_values_of_every_kind(self):
        for problem in (THREE, CHAINED, ROUND, (1, ()), (3, ())):
            for value in ODD_VALUES:
                self.assertIs(accepts_contradiction(problem, value), False)
        told = ("overfull", 1, 2, PLAIN_ROWS)
        for value in (list(told), ["cycle", (0, 1, 0)], ("overfull", 1, 2, list(PLAIN_ROWS)), told + (0,), told[:3],
                      ("overfull", 1, 2, tuple(list(row) for row in PLAIN_ROWS)), ("cycle", [0, 1, 0]),
                      ("cycle", (0, 1, 0), 0), ("overfull", (0, 1, 0)), ("cycle", 1, 2, PLAIN_ROWS)):
            self.assertIs(accepts_contradiction(THREE, value), False)
            self.assertIs(accepts_contradiction((3, ROUND[1]), value), False)
        for item in (False, 0.0, "0", None, -1, 3, (0,)):
            self.assertIs(accepts_contradiction(CHAINED, ("overfull", 1, 0, ((item, (0,), (0, 1, 2)),))), False)


class WrongArguments(unittest.TestCase):
    def test_point_40_problem(self):
        for wrong in NO_PROBLEMS + ODD_VALUES:
            self.assertEqual(name_of_wrong(self, tight, wrong), "problem")
            self.assertEqual(name_of_wrong(self, contradiction, wrong), "problem")
            for value in (1, None):
                self.assertEqual(name_of_wrong(self, due, wrong, value, value), "problem")
                self.assertEqual(name_of_wrong(self, accepts_contradiction, wrong, value), "problem")

    def test_point_40_low_and_high(self):
        odd = [value for value in ODD_VALUES if value not in (0, 1, 2)] + [True, False, 1.0, 21, -21]
        for problem in (THREE, CHAINED, (3, ROUND[1])):
            for wrong in odd + [0, 5]:
                for high in (0, 3, 4, -1, None):
                    self.assertEqual(name_of_wrong(self, due, problem, wrong, high), "low")
            for wrong in odd + [4, -1]:
                for low in (1, 4):
                    self.assertEqual(name_of_wrong(self, due, problem, low, wrong), "high")
        for items in range(1, 8):
            for low, high in product(range(-1, items + 4), repeat=2):
                if (low, high) in every_interval(items):
                    self.assertIn(due((items, ()), low, high), ((), tuple(range(items))))
                else:
                    name = "high" if 1 <= low <= items + 1 else "low"
                    self.assertEqual(name_of_wrong(self, due, (items, ()), low, high), name)

    def test_point_40_cyclic(self):
        for problem in small_problems():
            if is_cyclic(problem):
                self.assertEqual(not_possible(self, tight, problem), "cyclic")
                self.assertEqual(not_possible(self, due, problem, 1, 0), "cyclic")
                self.assertIs(accepts_contradiction(problem, contradiction(problem)), True)


class TheSameAgain(unittest.TestCase):
    def test_point_2_arguments_stay_and_results_are_equal(self):
        value = ["overfull", 1, 2, [[0, [0], [0]]]]
        for _ in range(2):
            self.assertEqual(contradiction(THREE), ("overfull", 1, 2, PLAIN_ROWS))
            self.assertEqual((due(THREE, 1, 2), tight((2, ()))), ((0, 1, 2), ((1, 2, (0, 1)),)))
            self.assertIs(accepts_contradiction(THREE, value), False)
            self.assertEqual(value, ["overfull", 1, 2, [[0, [0], [0]]]])

    def test_all_chains_make_no_contradiction_where_a_ranking_is_good(self):
        for problem in tiny_problems()[::3] + sampled_problems(3, 5):
            if good_rankings(problem):
                for low, high in product(range(-1, problem[0] + 3), repeat=2):
                    rows = rows_by_others(problem, low, high, all_chains(problem))
                    self.assertIs(accepts_contradiction(problem, ("overfull", low, high, rows)), False)


if __name__ == "__main__":
    unittest.main()
