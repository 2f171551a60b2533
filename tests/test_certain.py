"""Points 57 to 60, 63 and 64: the places of items, and what is certainly ahead of what."""

import unittest

from rankswithin.certain import certain_order, certainly_ahead, places
from rankswithin.formed import mirrored
from rankswithin.rankings import range_of
from rankswithin.verdicts import verdict
from support import (
    NO_PROBLEMS, ODD_VALUES, every_constraint, good_rankings, name_of_wrong, plus, sampled_problems, small_problems,
    threes, tiny_problems,
)

THREE = (3, (("within", 2, 1, 2), ("ahead", 2, 0)))
NONE = (3, (("ahead", 0, 1), ("within", 1, 1, 1)))
ROUND = (3, (("ahead", 0, 1), ("ahead", 1, 0)))


def pairs_of(problem):
    """All pairs of different items of the problem, ascending."""
    return [(one, other) for one in range(problem[0]) for other in range(problem[0]) if one != other]


def told_ahead(problem):
    """The pairs of which the one is ahead of the other one in all good rankings, if there is one (point 58)."""
    good = good_rankings(problem)
    if not good:
        return []
    return [(one, other) for one, other in pairs_of(problem)
            if all(ranking.index(one) < ranking.index(other) for ranking in good)]


def led_to(pairs):
    """All pairs of a first and a last item to which the pairs lead, one behind another."""
    found = set(pairs)
    while True:
        more = {(one, far) for one, other in found for near, far in pairs if other == near} - found
        if not more:
            return sorted(found)
        found |= more


class Places(unittest.TestCase):
    def test_point_57_all_rankings(self):
        gaps = 0
        for problem in small_problems():
            good = good_rankings(problem)
            for item in range(problem[0]):
                expected = tuple(sorted({ranking.index(item) + 1 for ranking in good}))
                found = places(problem, item)
                self.assertIsInstance(found, tuple)
                self.assertEqual(found, expected, (problem, item))
                gaps += len(found) > 0 and len(found) <= found[-1] - found[0]
        self.assertGreater(gaps, 20)

    def test_point_57_gaps(self):
        self.assertEqual(places((3, (("within", 1, 2, 2),)), 0), (1, 3))
        problem = (5, (("within", 0, 2, 2), ("within", 1, 4, 4)))
        self.assertEqual([places(problem, item) for item in range(5)], [(2,), (4,)] + [(1, 3, 5)] * 3)

    def test_point_57_and_the_range(self):
        for problem in small_problems()[::3]:
            for item in range(problem[0]):
                found = places(problem, item)
                self.assertEqual(range_of(problem, item), (found[0], found[-1]) if found else None)

    def test_point_57_twelve_constraints(self):
        problem = (7, (("ahead", 3, 6),) * 11 + (("within", 6, 1, 2),))
        self.assertEqual([places(problem, item) for item in (3, 6, 0)], [(1,), (2,), (3, 4, 5, 6, 7)])

    def test_without_a_good_ranking(self):
        for problem in (NONE, ROUND):
            self.assertEqual([places(problem, item) for item in range(3)], [()] * 3)
            self.assertEqual((certainly_ahead(problem), certain_order(problem)), ([], []))

    def test_one_item_and_no_constraint(self):
        self.assertEqual((places((1, ()), 0), certainly_ahead((1, ())), certain_order((1, ()))), ((1,), [], []))
        for items in range(2, 8):
            self.assertEqual(places((items, ()), 1), tuple(range(1, items + 1)))
            self.assertEqual((certainly_ahead((items, ())), certain_order((items, ()))), ([], []))


class CertainlyAhead(unittest.TestCase):
    def test_point_58_all_rankings(self):
        some = 0
        for problem in small_problems():
            found = certainly_ahead(problem)
            self.assertIsInstance(found, list)
            self.assertEqual(found, told_ahead(problem), problem)
            some += len(found) > 1
        self.assertGreater(some, 100)

    def test_point_58_the_verdict_is_certain(self):
        for problem in tiny_problems()[::3] + threes()[::6] + sampled_problems(4, 10):
            found = certainly_ahead(problem)
            for one, other in pairs_of(problem):
                self.assertIs(verdict(problem, ("ahead", one, other)) == "certain", (one, other) in found)

    def test_point_58_of_a_third_one(self):
        for problem in small_problems():
            found = certainly_ahead(problem)
            self.assertEqual(found, led_to(found))

    def test_point_58_also_without_a_constraint_between_them(self):
        self.assertEqual(certainly_ahead((3, (("within", 2, 1, 1),))), [(2, 0), (2, 1)])
        problem = (4, (("within", 3, 1, 2), ("within", 1, 1, 2), ("within", 0, 3, 3)))
        self.assertEqual(certainly_ahead(problem), [(0, 2), (1, 0), (1, 2), (3, 0), (3, 2)])

    def test_points_59_and_60_turned_around(self):
        for problem in small_problems()[::4]:
            turned = mirrored(problem)
            self.assertEqual(certainly_ahead(turned), sorted(pair[::-1] for pair in certainly_ahead(problem)))
            self.assertEqual(certain_order(turned), sorted(pair[::-1] for pair in certain_order(problem)))

    def test_point_60_as_many_places_ahead_and_behind(self):
        for problem in small_problems():
            found = certainly_ahead(problem)
            for item in range(problem[0]):
                ahead = sum(pair[1] == item for pair in found)
                behind = sum(pair[0] == item for pair in found)
                for place in places(problem, item):
                    self.assertTrue(ahead < place <= problem[0] - behind)

    def test_point_61_with_further_constraints(self):
        for problem in tiny_problems()[::3] + threes()[::9] + sampled_problems(4, 5):
            for more in every_constraint(problem[0])[::4]:
                wider = plus(problem, more)
                if len(wider[1]) <= 12 and good_rankings(wider):
                    self.assertLessEqual(set(certainly_ahead(problem)), set(certainly_ahead(wider)))


class CertainOrder(unittest.TestCase):
    def test_point_59_all_rankings(self):
        shorter = 0
        for problem in small_problems():
            ahead = set(told_ahead(problem))
            expected = sorted(
                (one, other) for one, other in ahead
                if not any((one, item) in ahead and (item, other) in ahead for item in range(problem[0]))
            )
            found = certain_order(problem)
            self.assertIsInstance(found, list)
            self.assertEqual(found, expected, problem)
            shorter += len(found) < len(ahead)
        self.assertGreater(shorter, 50)

    def test_point_59_its_pairs_lead_to_all_certain_ones(self):
        for problem in small_problems():
            self.assertEqual(led_to(certain_order(problem)), told_ahead(problem))

    def test_point_59_chains_and_forks(self):
        chain = (4, (("ahead", 0, 1), ("ahead", 1, 2), ("ahead", 2, 3), ("ahead", 0, 3), ("ahead", 0, 2)))
        self.assertEqual(certainly_ahead(chain), [(0, 1), (0, 2), (0, 3), (1, 2), (1, 3), (2, 3)])
        self.assertEqual(certain_order(chain), [(0, 1), (1, 2), (2, 3)])
        fork = (4, (("ahead", 3, 1), ("ahead", 3, 2), ("ahead", 1, 0), ("ahead", 2, 0)))
        self.assertEqual(certainly_ahead(fork), [(1, 0), (2, 0), (3, 0), (3, 1), (3, 2)])
        self.assertEqual(certain_order(fork), [(1, 0), (2, 0), (3, 1), (3, 2)])

    def test_point_59_seven_items(self):
        problem = (7, tuple(("within", item, item + 1, item + 1) for item in range(7)))
        self.assertEqual(certain_order(problem), [(item, item + 1) for item in range(6)])
        self.assertEqual(len(certainly_ahead(problem)), 21)

    def test_point_64(self):
        self.assertEqual(certain_order(THREE), [(2, 0)])
        self.assertEqual([places(THREE, item) for item in range(3)], [(2, 3), (1, 2, 3), (1, 2)])


class WrongArguments(unittest.TestCase):
    def test_point_63_problem(self):
        for wrong in NO_PROBLEMS + ODD_VALUES:
            self.assertEqual(name_of_wrong(self, certainly_ahead, wrong), "problem")
            self.assertEqual(name_of_wrong(self, certain_order, wrong), "problem")
            for item in (0, 8, None):
                self.assertEqual(name_of_wrong(self, places, wrong, item), "problem")

    def test_point_63_item(self):
        odd = [value for value in ODD_VALUES if value not in (0, 1, 2)]
        for problem in (THREE, NONE, ROUND):
            for wrong in odd + [True, False, 0.0, -1, 3, 10 ** 40, "0", (0,), [0]]:
                self.assertEqual(name_of_wrong(self, places, problem, wrong), "item")
        self.assertEqual(name_of_wrong(self, places, (1, ()), 1), "item")


class TheSameAgain(unittest.TestCase):
    def test_point_2_changing_a_list_has_no_effect(self):
        for function, expected in ((certainly_ahead, [(0, 1), (0, 2), (1, 2)]), (certain_order, [(0, 1), (1, 2)])):
            for _ in range(2):
                found = function((3, (("ahead", 0, 1), ("ahead", 1, 2))))
                self.assertEqual(found, expected)
                found.append((2, 0))


if __name__ == "__main__":
    unittest.main()
