"""Points 20, 21 and 28: chains and cycles."""

import unittest
from itertools import product

from rankswithin.cycles import accepts_cycle, told_cycle
from support import (
    NO_PROBLEMS, ODD_VALUES, all_rankings, chains_up_to, good_rankings, is_cyclic, name_of_wrong, right_chain,
    sampled_problems, small_problems, threes, tiny_problems, variants,
)

ROUND = (3, (("ahead", 2, 0), ("ahead", 0, 1), ("ahead", 1, 2), ("ahead", 1, 0)))
RING = (7, tuple(("ahead", item, (item + 1) % 7) for item in range(7)))


def is_right(problem, value):
    """Whether the value is a cycle of the problem (point 20)."""
    return right_chain(problem, value) and len(value) >= 2 and value[0] == value[-1]


class ToldCycle(unittest.TestCase):
    def test_points_20_and_21_the_first_of_all_cycles_with_the_fewest_items(self):
        cyclic = 0
        for problem in small_problems():
            if is_cyclic(problem):
                # The chains stand by their length, and then in order.
                cycles = [one for one in chains_up_to(problem, problem[0] + 1) if len(one) > 1 and one[0] == one[-1]]
                self.assertEqual(told_cycle(problem), cycles[0], problem)
                cyclic += 1
            else:
                self.assertIsNone(told_cycle(problem), problem)
        self.assertGreater(cyclic, 50)

    def test_point_21_it_begins_and_ends_with_its_least_item(self):
        for problem in small_problems():
            chain = told_cycle(problem)
            if chain is not None:
                self.assertIsInstance(chain, tuple)
                self.assertEqual((chain[0], chain[-1]), (min(chain), min(chain)))

    def test_point_21_no_ranking_is_good(self):
        for problem in small_problems():
            if told_cycle(problem) is not None:
                self.assertEqual(good_rankings(problem), [])

    def test_point_21_fewest_items_come_before_the_least_ones(self):
        problem = (5, (("ahead", 0, 1), ("ahead", 1, 2), ("ahead", 2, 0), ("ahead", 4, 3), ("ahead", 3, 4)))
        self.assertEqual(told_cycle(problem), (3, 4, 3))
        problem = (4, (("ahead", 0, 3), ("ahead", 3, 0), ("ahead", 0, 2), ("ahead", 2, 0), ("ahead", 1, 2)))
        self.assertEqual(told_cycle(problem), (0, 2, 0))
        problem = (4, (("ahead", 0, 3), ("ahead", 3, 1), ("ahead", 1, 0), ("ahead", 2, 1), ("ahead", 0, 2)))
        self.assertEqual(told_cycle(problem), (0, 2, 1, 0))

    def test_seven_items_and_twelve_constraints(self):
        self.assertEqual(told_cycle(RING), (0, 1, 2, 3, 4, 5, 6, 0))
        self.assertEqual(told_cycle((7, RING[1] + (("ahead", 5, 3),) * 5)), (3, 4, 5, 3))
        self.assertIsNone(told_cycle((7, RING[1][:6] + (("ahead", 0, 6),) * 6)))
        self.assertIsNone(told_cycle((7, ())))
        self.assertIsNone(told_cycle((1, (("within", 0, 1, 1),))))


class AcceptsCycle(unittest.TestCase):
    def test_point_20_all_short_tuples(self):
        for problem in threes()[::2] + sampled_problems(3, 20) + tiny_problems()[::3]:
            for size in range(6 if problem[0] == 3 else 8):
                for value in product(range(problem[0]), repeat=size):
                    self.assertIs(accepts_cycle(problem, value), is_right(problem, value), (problem, value))

    def test_point_20_cycles_of_whatever_length(self):
        turn = (0, 1, 2)
        for times in (1, 2, 50, 5000):
            self.assertIs(accepts_cycle(ROUND, turn * times + (0,)), True)
            self.assertIs(accepts_cycle(ROUND, turn * times), False)
            self.assertIs(accepts_cycle(ROUND, turn * times + (2, 0)), False)
        self.assertIs(accepts_cycle(ROUND, (1, 0, 1, 2, 0, 1, 0, 1)), True)

    def test_point_20_told_cycles_from_each_of_their_items(self):
        for problem in small_problems():
            chain = told_cycle(problem)
            if chain is not None:
                for at in range(len(chain) - 1):
                    self.assertIs(accepts_cycle(problem, chain[at:-1] + chain[:at] + chain[at:at + 1]), True)

    def test_cycles_that_are_changed(self):
        for problem in (ROUND, RING) + tuple(one for one in small_problems() if is_cyclic(one))[::25]:
            for value in variants(told_cycle(problem)):
                self.assertIs(accepts_cycle(problem, value), is_right(problem, value))

    def test_point_20_a_single_item_is_no_cycle(self):
        for problem in (ROUND, (1, ()), (3, ())):
            for value in ((), (0,), (0, 0)):
                self.assertIs(accepts_cycle(problem, value), False)

    def test_point_28_values_of_every_kind(self):
        for problem in (ROUND, RING, (2, (("ahead", 0, 1), ("ahead", 1, 0))), (1, ())):
            for value in ODD_VALUES + [[0, 1, 0], (False, True, False), (0, True, 0), ("0", "1", "0"), (0, 7, 0)]:
                self.assertIs(accepts_cycle(problem, value), False)

    def test_point_21_what_is_accepted_is_so(self):
        for problem in threes() + sampled_problems(4, 20):
            for value in chains_up_to(problem, 5):
                if accepts_cycle(problem, value):
                    for ranking in all_rankings(problem[0]):
                        steps = zip(value, value[1:])
                        self.assertFalse(all(ranking.index(one) < ranking.index(other) for one, other in steps))


class WrongArguments(unittest.TestCase):
    def test_point_28_problem(self):
        for wrong in NO_PROBLEMS + ODD_VALUES:
            self.assertEqual(name_of_wrong(self, told_cycle, wrong), "problem")
            for value in ((0, 1, 0), None):
                self.assertEqual(name_of_wrong(self, accepts_cycle, wrong, value), "problem")


class TheSameAgain(unittest.TestCase):
    def test_point_2_arguments_stay_and_results_are_equal(self):
        value = [0, 1, [0], (1,)]
        for _ in range(2):
            self.assertEqual(told_cycle(ROUND), (0, 1, 0))
            self.assertIs(accepts_cycle(ROUND, value), False)
            self.assertEqual(value, [0, 1, [0], (1,)])
        self.assertEqual(ROUND, (3, (("ahead", 2, 0), ("ahead", 0, 1), ("ahead", 1, 2), ("ahead", 1, 0))))


if __name__ == "__main__":
    unittest.main()
