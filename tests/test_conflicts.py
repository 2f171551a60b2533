"""Points 99 to 101 and 107 to 110: conflicts, the told conflict, and the evidence for conflicts."""

import copy
import time
import unittest
from collections import Counter

from rankswithin.conflicts import accepts_conflict, conflict_evidence, conflicts, told_conflict
from support import (
    DEEP_LIST, DEEP_TUPLE, NO_PROBLEMS, ODD_VALUES, OTHER_DEEP_TUPLE, all_rankings, contradictions_by_others,
    every_constraint, every_part, few_constraints, full_problems, good_rankings, name_of_wrong, no_indexes,
    not_possible, plus, right_contradiction, right_ranking, sampled_problems, small_problems, take, threes,
    tiny_problems, told_conflicts, told_corrections, too_large, variants,
)

TWO = (2, (("within", 0, 2, 2), ("ahead", 0, 1), ("within", 1, 1, 1), ("within", 0, 1, 2)))
NONE = (3, (("ahead", 0, 1), ("within", 1, 1, 1)))
ROUND = (3, (("ahead", 0, 1), ("ahead", 1, 0), ("ahead", 1, 2), ("ahead", 2, 0)))
FREE = (3, ())


def left_out_in_turn(problem):
    """The told conflict, step by step (point 100), or None if some ranking is good."""
    if good_rankings(problem):
        return None
    left = list(range(len(problem[1])))
    for index in list(left):
        if not good_rankings(take(problem, [other for other in left if other != index])):
            left.remove(index)
    return tuple(left)


def right_conflict(problem, indexes, value):
    """Whether the value is evidence that the constraints are a conflict (point 101)."""
    if value.__class__ is not tuple or len(value) != 2:
        return False
    contradiction, rankings = value
    if not right_contradiction(take(problem, indexes), contradiction):
        return False
    if rankings.__class__ is not tuple or len(rankings) != len(indexes):
        return False
    fewer = [[other for other in indexes if other != index] for index in indexes]
    return all(right_ranking(take(problem, some), one) for some, one in zip(fewer, rankings))


def rankings_by_others(problem, indexes):
    """For each of the constraints the last ranking that is good for the others, or one that is not."""
    found = []
    for index in indexes:
        good = good_rankings(take(problem, [other for other in indexes if other != index]))
        found.append(good[-1] if good else all_rankings(problem[0])[-1])
    return tuple(found)


class Conflicts(unittest.TestCase):
    def test_point_99_all_parts(self):
        counted = Counter()
        for problem in few_constraints(small_problems()):
            found = conflicts(problem)
            self.assertIsInstance(found, list)
            self.assertEqual(found, told_conflicts(problem), problem)
            counted[len(found)] += 1
        self.assertGreater(min(counted[0], counted[1], counted[2]), 100)
        self.assertGreater(max(counted), 10)

    def test_point_99_no_ranking_but_one_without_each(self):
        for problem in few_constraints(tiny_problems()[::3] + threes()[::7] + sampled_problems(4, 8)):
            found = conflicts(problem)
            for indexes in every_part(problem):
                fewer = [indexes[:at] + indexes[at + 1:] for at in range(len(indexes))]
                right = not good_rankings(take(problem, indexes))
                right = right and all(good_rankings(take(problem, one)) for one in fewer)
                self.assertIs(indexes in found, right, (problem, indexes))
                # Each part without a good ranking has all constraints of some conflict.
                inside = any(set(one) <= set(indexes) for one in found)
                self.assertIs(inside, not good_rankings(take(problem, indexes)))

    def test_point_99_none_if_and_only_if_some_ranking_is_good(self):
        for problem in few_constraints(small_problems()):
            self.assertIs(conflicts(problem) == [], good_rankings(problem) != [])

    def test_point_103_the_sets_that_have_a_constraint_of_each_correction(self):
        for problem in few_constraints(small_problems())[::3]:
            corrections = [set(one) for one in told_corrections(problem)]
            hitting = [one for one in every_part(problem) if all(set(one) & other for other in corrections)]
            least = [one for one in hitting if not any(set(other) < set(one) for other in hitting)]
            self.assertEqual(conflicts(problem), sorted(least))

    def test_point_107_a_further_constraint(self):
        more = 0
        for problem in few_constraints(tiny_problems()[::3] + threes()[::9] + sampled_problems(4, 5)):
            if len(problem[1]) < 10:
                found = conflicts(problem)
                for one in every_constraint(problem[0])[::5]:
                    wider = conflicts(plus(problem, one))
                    self.assertEqual([old for old in wider if len(problem[1]) not in old], found)
                    more += len(wider) > len(found)
        self.assertGreater(more, 100)

    def test_point_107_a_constraint_twice(self):
        tested = 0
        for problem in few_constraints(tiny_problems()[::2] + threes()[::5] + sampled_problems(4, 8)):
            many = len(problem[1])
            if 0 < many < 10:
                for index in (0, many - 1):
                    found = conflicts(plus(problem, problem[1][index]))
                    with_one = [one for one in conflicts(problem) if index in one]
                    turned = [tuple(sorted(set(one) - {index} | {many})) for one in with_one]
                    self.assertEqual(found, sorted(conflicts(problem) + turned))
                    self.assertFalse(any({index, many} <= set(one) for one in found))
                    tested += with_one != []
        self.assertGreater(tested, 50)

    def test_point_99_many_conflicts_of_ten_constraints_in_a_short_time(self):
        start = time.perf_counter()
        crowd = (7, tuple(("within", item, 1, 3) for item in range(7)) + (("within", 0, 1, 3),) * 3)
        apart = (2, (("within", 0, 1, 1),) * 5 + (("within", 0, 2, 2),) * 5)
        pairs = [(0, 1), (1, 2), (2, 3), (3, 4), (4, 5), (5, 6), (6, 0), (0, 2), (2, 0), (1, 0)]
        rounds = (7, tuple(("ahead", one, other) for one, other in pairs))
        doubled = (7, tuple(("ahead", at // 2 % 5, (at // 2 + 1) % 5) for at in range(10)))
        free = (7, tuple(("ahead", item, 6) for item in range(6)) + (("within", 6, 7, 7),) * 4)
        found = [conflicts(problem) for problem in (crowd, apart, rounds, doubled, free)]
        # Four items of seven: 15 sets without the item 0, and 20 with it, by each of its four constraints.
        self.assertEqual([len(one) for one in found], [95, 25, 5, 32, 0])
        for problem in sampled_problems(7, 20):
            conflicts(take(problem, range(min(10, len(problem[1])))))
        self.assertLess(time.perf_counter() - start, 30)
        for problem, one in zip((crowd, apart, rounds, doubled, free), found):
            self.assertEqual(one, told_conflicts(problem))

    def test_point_110(self):
        self.assertEqual(conflicts((2, TWO[1][:3])), [(0, 1), (1, 2)])

    def test_no_constraints_and_one_item(self):
        for items in range(1, 8):
            self.assertEqual(conflicts((items, ())), [])
        self.assertEqual(conflicts((1, (("within", 0, 1, 1),) * 10)), [])


class ToldConflict(unittest.TestCase):
    def test_point_100_step_by_step(self):
        counted = Counter()
        for problem in small_problems():
            found = told_conflict(problem)
            self.assertEqual(found, left_out_in_turn(problem), problem)
            counted[found is None] += 1
            if found is not None:
                self.assertIsInstance(found, tuple)
                if len(problem[1]) <= 10:
                    self.assertIn(found, told_conflicts(problem))
        self.assertGreater(min(counted.values()), 200)

    def test_point_100_twelve_constraints(self):
        told = 0
        for problem in full_problems():
            found = told_conflict(problem)
            self.assertEqual(found, left_out_in_turn(problem), problem)
            told += found is not None
        self.assertGreater(told, 50)
        self.assertEqual(told_conflict((3, NONE[1] * 6)), (10, 11))
        self.assertIsNone(told_conflict((3, NONE[1][:1] * 12)))

    def test_point_100_from_the_first_constraint_on(self):
        self.assertEqual(told_conflict(TWO), (1, 2))
        self.assertEqual(told_conflict((2, TWO[1][2::-1])), (1, 2))
        self.assertEqual(told_conflict((3, NONE[1] + NONE[1])), (2, 3))
        self.assertEqual(told_conflict((3, (("ahead", 0, 1), ("ahead", 1, 0), ("ahead", 0, 1)))), (1, 2))
        other = 0
        for problem in few_constraints(small_problems()):
            if not good_rankings(problem):
                other += told_conflict(problem) != told_conflicts(problem)[0]
        self.assertGreater(other, 100)

    def test_point_100_without_a_conflict(self):
        for items in range(1, 8):
            self.assertIsNone(told_conflict((items, ())))


class Evidence(unittest.TestCase):
    def test_point_101_of_each_conflict_and_of_nothing_else(self):
        counted = Counter()
        for problem in few_constraints(small_problems())[::3] + [TWO, NONE, ROUND, FREE]:
            for indexes in every_part(problem)[::1 if len(problem[1]) < 6 else 7] + told_conflicts(problem)[:20]:
                if indexes in told_conflicts(problem):
                    found = conflict_evidence(problem, indexes)
                    self.assertIs(right_conflict(problem, indexes, found), True, (problem, indexes, found))
                    self.assertIs(accepts_conflict(problem, indexes, found), True)
                    counted[True] += 1
                else:
                    self.assertEqual(not_possible(self, conflict_evidence, problem, indexes), "conflict")
                    counted[False] += 1
        self.assertGreater(min(counted.values()), 300)

    def test_point_101_twelve_constraints(self):
        told = 0
        for problem in full_problems():
            indexes = left_out_in_turn(problem)
            if indexes is not None:
                found = conflict_evidence(problem, indexes)
                self.assertIs(right_conflict(problem, indexes, found), True)
                self.assertIs(accepts_conflict(problem, indexes, found), True)
                told += 1
            for wrong in ((), tuple(range(12)), (0,), tuple(range(11))):
                if wrong != indexes and len(wrong) != 1:
                    self.assertEqual(not_possible(self, conflict_evidence, problem, wrong), "conflict")
        self.assertGreater(told, 50)

    def test_point_101_no_conflicts(self):
        self.assertEqual(conflict_evidence(TWO, (0, 1))[1], ((1, 0), (0, 1))[::-1])
        for indexes in ((), (0,), (0, 2), (0, 1, 2), (0, 1, 2, 3), (0, 1, 3), (3,), (2, 3)):
            self.assertEqual(not_possible(self, conflict_evidence, TWO, indexes), "conflict")
        self.assertEqual(not_possible(self, conflict_evidence, FREE, ()), "conflict")


class Judge(unittest.TestCase):
    def by_others(self, problem, indexes):
        """Evidence, right or wrong, by other writers."""
        rankings = rankings_by_others(problem, indexes)
        told = contradictions_by_others(take(problem, indexes)) + contradictions_by_others(problem)[-2:]
        return [(one, rankings) for one in told[:3] + told[-3:]] + [(one, rankings[::-1]) for one in told[:1]]

    def test_points_101_and_108_whoever_wrote_it(self):
        counted = Counter()
        for problem in few_constraints(small_problems())[::5] + [TWO, NONE, ROUND]:
            for indexes in told_conflicts(problem)[:4] + every_part(problem)[::67]:
                for value in self.by_others(problem, indexes):
                    found = accepts_conflict(problem, indexes, value)
                    self.assertIs(found, right_conflict(problem, indexes, value), (problem, indexes, value))
                    if found:
                        self.assertIn(indexes, told_conflicts(problem))
                    counted[found] += 1
        self.assertGreater(min(counted.values()), 200)

    def test_points_101_and_108_twelve_constraints(self):
        counted = Counter()
        for problem in full_problems()[::2]:
            indexes = left_out_in_turn(problem)
            if indexes is not None:
                for some in (indexes, indexes[1:], tuple(range(12))):
                    for value in self.by_others(problem, some):
                        found = accepts_conflict(problem, some, value)
                        self.assertIs(found, right_conflict(problem, some, value))
                        self.assertIs(found and some != indexes, False)
                        counted[found] += 1
        self.assertGreater(min(counted.values()), 100)

    def test_point_108_a_contradiction_of_the_part(self):
        self.assertIs(accepts_conflict(ROUND, (0, 1), (("cycle", (0, 1, 0)), ((1, 0, 2), (0, 1, 2)))), True)
        self.assertIs(accepts_conflict(ROUND, (0, 1), (("cycle", (1, 0, 1)), ((1, 0, 2), (0, 1, 2)))), True)
        longer = ("cycle", (1, 0, 1, 0, 1))
        self.assertIs(accepts_conflict(ROUND, (0, 1), (longer, ((2, 1, 0), (2, 0, 1)))), True)
        # A cycle of the whole problem, but with a constraint that is not in the part.
        whole = ("cycle", (0, 1, 2, 0))
        self.assertIs(accepts_conflict(ROUND, (0, 1), (whole, ((1, 0, 2), (0, 1, 2)))), False)
        self.assertIs(accepts_conflict(ROUND, (0, 2, 3), (whole, ((1, 2, 0), (2, 0, 1), (0, 1, 2)))), True)
        self.assertIs(accepts_conflict(ROUND, (0, 2, 3), (("cycle", (0, 1, 0)), ((1, 2, 0), (2, 0, 1), (0, 1, 2)))),
                      False)
        # All of the constraints contradict one another, but none of them is needed for that.
        self.assertIs(accepts_conflict(ROUND, (0, 1, 2, 3), (whole, ((1, 2, 0), (2, 0, 1), (0, 2, 1), (0, 1, 2)))),
                      False)

    def test_point_101_rankings_left_out_doubled_or_in_another_sequence(self):
        contradiction, rankings = ("cycle", (0, 1, 2, 0)), ((1, 2, 0), (2, 0, 1), (0, 1, 2))
        self.assertIs(accepts_conflict(ROUND, (0, 2, 3), (contradiction, rankings)), True)
        for wrong in (rankings[1:], rankings[:2], rankings[::2], (), rankings + rankings[2:], rankings[:1] + rankings,
                      rankings[::-1], rankings[1:] + rankings[:1], list(rankings), None, rankings[0], (rankings,),
                      rankings[:2] + (None,), rankings[:2] + ((0, 2, 1),), rankings[:2] + ((2, 0, 1),),
                      rankings[:2] + ([0, 1, 2],), rankings[:2] + ((0, 1),), rankings[:2] + ((False, True, 2),)):
            self.assertIs(accepts_conflict(ROUND, (0, 2, 3), (contradiction, wrong)), False, wrong)
        for wrong in ((rankings, contradiction), (contradiction,), (contradiction, rankings, ()), contradiction,
                      [contradiction, rankings], (contradiction,) + rankings, (None, rankings), rankings):
            self.assertIs(accepts_conflict(ROUND, (0, 2, 3), wrong), False)

    def test_point_101_evidence_of_other_constraints(self):
        values = {indexes: conflict_evidence(ROUND, indexes) for indexes in told_conflicts(ROUND)}
        self.assertEqual(list(values), [(0, 1), (0, 2, 3)])
        for told, value in values.items():
            for indexes in every_part(ROUND):
                self.assertIs(accepts_conflict(ROUND, indexes, value), indexes == told)

    def test_point_101_evidence_that_is_changed(self):
        accepted = 0
        for problem in [TWO, ROUND, NONE] + few_constraints(sampled_problems(4, 3)):
            for indexes in told_conflicts(problem)[:2]:
                for value in variants(conflict_evidence(problem, indexes)):
                    right = right_conflict(problem, indexes, value)
                    self.assertIs(accepts_conflict(problem, indexes, value), right)
                    accepted += right
        self.assertGreater(accepted, 5)

    def test_point_109_values_of_every_kind(self):
        cycle, rankings = ("cycle", (0, 1, 0)), ((1, 0, 2), (0, 1, 2))
        self.assertIs(accepts_conflict(ROUND, (0, 1), (cycle, rankings)), True)
        odd = ODD_VALUES + [
            (cycle, DEEP_TUPLE), (cycle, DEEP_LIST), (DEEP_TUPLE, rankings), (DEEP_LIST, rankings), (cycle, ()),
            (cycle, (DEEP_TUPLE, DEEP_TUPLE)), (cycle, (DEEP_TUPLE, OTHER_DEEP_TUPLE)), (cycle, ([], [])),
            (("cycle", DEEP_TUPLE), rankings), (("overfull", 1, 0, DEEP_TUPLE), rankings), (cycle, (None, None)),
            (cycle, "ab"), ("ab", rankings), (cycle, None), (None, None), (cycle, ((1.0, 0, 2), (0, 1, 2))),
            (cycle, ((True, False, 2), (0, 1, 2))), (cycle, {}), (cycle, ({}, {})), (cycle, [(1, 0, 2), (0, 1, 2)]),
        ]
        for indexes in every_part(ROUND):
            for value in odd:
                self.assertIs(accepts_conflict(ROUND, indexes, value), False)
        for value in odd:
            self.assertIs(accepts_conflict(FREE, (), value), False)


class WrongArguments(unittest.TestCase):
    def test_point_109_problem(self):
        for wrong in NO_PROBLEMS + ODD_VALUES:
            for function in (conflicts, told_conflict):
                self.assertEqual(name_of_wrong(self, function, wrong), "problem")
            for indexes in ((), (0,), None):
                self.assertEqual(name_of_wrong(self, conflict_evidence, wrong, indexes), "problem")
                self.assertEqual(name_of_wrong(self, accepts_conflict, wrong, indexes, None), "problem")

    def test_point_109_indexes(self):
        for problem in (TWO, ROUND, FREE, (3, NONE[1] * 6)):
            for wrong in no_indexes(len(problem[1])):
                self.assertEqual(name_of_wrong(self, conflict_evidence, problem, wrong), "indexes")
                for value in (None, (("cycle", (0, 1, 0)), ((1, 0, 2), (0, 1, 2)))):
                    self.assertEqual(name_of_wrong(self, accepts_conflict, problem, wrong, value), "indexes")

    def test_point_109_more_than_ten_constraints(self):
        for constraints in (NONE[1] * 6, NONE[1][:1] * 12, ROUND[1] * 3):
            for many in (11, 12):
                self.assertEqual(too_large(self, conflicts, (3, constraints[:many])), "constraints")
            self.assertIsInstance(conflicts((3, constraints[:10])), list)
            # The others take all problems.
            told = left_out_in_turn((3, constraints))
            self.assertEqual(told_conflict((3, constraints)), told)
            self.assertIs(accepts_conflict((3, constraints), (11,), None), False)
            self.assertEqual(not_possible(self, conflict_evidence, (3, constraints), (11,)), "conflict")

    def test_point_109_not_possible_behind_all_others(self):
        self.assertEqual(name_of_wrong(self, conflict_evidence, FREE, (0,)), "indexes")
        self.assertEqual(name_of_wrong(self, conflict_evidence, TWO, (1, 0)), "indexes")
        self.assertEqual(name_of_wrong(self, conflict_evidence, (3, NONE[1] * 7), ()), "problem")


class TheSameAgain(unittest.TestCase):
    def test_points_2_and_3_arguments_stay_and_results_are_new(self):
        value = [["cycle", (0, 1, 0)], [[1, 0], [0, 1]]]
        before = copy.deepcopy(value)
        for _ in range(2):
            found = conflicts(TWO)
            self.assertEqual(found, [(0, 1), (1, 2)])
            found.clear()
            self.assertEqual((told_conflict(TWO), conflict_evidence(TWO, (0, 1))[1]), ((1, 2), ((0, 1), (1, 0))))
            self.assertIs(accepts_conflict(TWO, (0, 1), value), False)
            self.assertEqual(value, before)


if __name__ == "__main__":
    unittest.main()
