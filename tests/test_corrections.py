"""Points 102 to 110: corrections, the least one, blameless constraints, and the evidence for corrections."""

import copy
import time
import unittest
from collections import Counter

from rankswithin.conflicts import conflicts
from rankswithin.corrections import accepts_correction, blameless, correction_evidence, corrections, least_correction
from support import (
    DEEP_LIST, DEEP_TUPLE, NO_PROBLEMS, ODD_VALUES, OTHER_DEEP_TUPLE, all_rankings, contradictions_by_others,
    every_constraint, every_part, few_constraints, full_problems, good_rankings, name_of_wrong, no_indexes,
    not_possible, plus, right_contradiction, right_ranking, same, sampled_problems, satisfying, small_problems, take,
    threes, tiny_problems, told_conflicts, told_corrections, too_large, variants, violations,
)

TWO = (2, (("within", 0, 2, 2), ("ahead", 0, 1), ("within", 1, 1, 1), ("within", 0, 1, 2)))
NONE = (3, (("ahead", 0, 1), ("within", 1, 1, 1)))
ROUND = (3, (("ahead", 0, 1), ("ahead", 1, 0), ("ahead", 1, 2), ("ahead", 2, 0)))
FREE = (3, ())


def others_of(problem, indexes):
    """The indexes of all other constraints."""
    return [index for index in range(len(problem[1])) if index not in indexes]


def put_back(problem, indexes):
    """For each of the constraints the part with it and all others."""
    return [take(problem, sorted(others_of(problem, indexes) + [index])) for index in indexes]


def is_told(problem, indexes):
    """Whether the constraints are a correction (point 102)."""
    return bool(good_rankings(take(problem, others_of(problem, indexes)))) and not any(
        good_rankings(more) for more in put_back(problem, indexes)
    )


def right_correction(problem, indexes, value):
    """Whether the value is evidence that the constraints are a correction (point 104)."""
    if value.__class__ is not tuple or len(value) != 2:
        return False
    ranking, contradictions = value
    if not right_ranking(take(problem, others_of(problem, indexes)), ranking):
        return False
    if contradictions.__class__ is not tuple or len(contradictions) != len(indexes):
        return False
    return all(right_contradiction(more, one) for more, one in zip(put_back(problem, indexes), contradictions))


def corrections_of_twelve(problem):
    """Corrections of a problem with twelve constraints."""
    return told_corrections(problem)[:2] + told_corrections(problem)[-1:]


class Corrections(unittest.TestCase):
    def test_points_102_and_105_all_rankings(self):
        counted = Counter()
        for problem in few_constraints(small_problems()):
            found = corrections(problem)
            self.assertIsInstance(found, list)
            self.assertEqual(found, told_corrections(problem), problem)
            counted[len(found)] += 1
        self.assertGreater(min(counted[1], counted[2], counted[3]), 50)
        self.assertGreater(max(counted), 8)

    def test_point_102_all_parts(self):
        for problem in few_constraints(tiny_problems()[::3] + threes()[::7] + sampled_problems(4, 8)):
            found = corrections(problem)
            for indexes in every_part(problem):
                self.assertIs(indexes in found, is_told(problem, indexes), (problem, indexes))

    def test_point_102_empty_if_and_only_if_some_ranking_is_good(self):
        counted = Counter()
        for problem in few_constraints(small_problems()):
            found = corrections(problem)
            self.assertIs(() in found, good_rankings(problem) != [])
            if () in found:
                self.assertEqual(found, [()])
            counted[() in found] += 1
        self.assertGreater(min(counted.values()), 200)

    def test_point_103_the_sets_that_have_a_constraint_of_each_conflict(self):
        for problem in few_constraints(small_problems())[::3]:
            sets = [set(one) for one in conflicts(problem)]
            hitting = [one for one in every_part(problem) if all(set(one) & other for other in sets)]
            least = [one for one in hitting if not any(set(other) < set(one) for other in hitting)]
            self.assertEqual(corrections(problem), sorted(least))

    def test_point_105_what_a_ranking_violates(self):
        for problem in few_constraints(small_problems())[::2]:
            found = [set(one) for one in corrections(problem)]
            for wrong in violations(problem):
                self.assertTrue(any(one <= set(wrong) for one in found))

    def test_point_107_a_constraint_twice(self):
        tested = 0
        for problem in few_constraints(tiny_problems()[::2] + threes()[::5] + sampled_problems(4, 8)):
            many = len(problem[1])
            if 0 < many < 10:
                for index in (0, many - 1):
                    found = corrections(plus(problem, problem[1][index]))
                    both = [one + (many,) if index in one else one for one in corrections(problem)]
                    self.assertEqual(found, sorted(both))
                    tested += found != corrections(problem)
        self.assertGreater(tested, 50)

    def test_ten_constraints_in_a_short_time(self):
        start = time.perf_counter()
        crowd = (7, tuple(("within", item, 1, 3) for item in range(7)) + (("within", 0, 1, 3),) * 3)
        apart = (2, (("within", 0, 1, 1),) * 5 + (("within", 0, 2, 2),) * 5)
        pairs = [(0, 1), (1, 2), (2, 3), (3, 4), (4, 5), (5, 6), (6, 0), (0, 2), (2, 0), (1, 0)]
        rounds = (7, tuple(("ahead", one, other) for one, other in pairs))
        found = [corrections(problem) for problem in (crowd, apart, rounds)]
        # Four of the seven items go: 15 sets of the items but 0, and 20 with 0 and its four constraints.
        self.assertEqual([len(one) for one in found[:2]], [35, 2])
        for problem in sampled_problems(7, 20):
            some = take(problem, range(min(10, len(problem[1]))))
            self.assertIn(least_correction(some), corrections(some))
            blameless(some)
        self.assertLess(time.perf_counter() - start, 30)
        for problem, one in zip((crowd, apart, rounds), found):
            self.assertEqual(one, told_corrections(problem))

    def test_point_110(self):
        self.assertEqual(corrections((2, TWO[1][:3])), [(0, 2), (1,)])

    def test_no_constraints_and_one_item(self):
        for items in range(1, 8):
            self.assertEqual(corrections((items, ())), [()])
        self.assertEqual(corrections((1, (("within", 0, 1, 1),) * 10)), [()])


class LeastCorrection(unittest.TestCase):
    def test_point_105_the_first_one_of_the_fewest(self):
        counted = Counter()
        for problem in few_constraints(small_problems()):
            found = least_correction(problem)
            self.assertIsInstance(found, tuple)
            told = told_corrections(problem)
            fewest = min(len(one) for one in told)
            self.assertEqual(found, next(one for one in told if len(one) == fewest), problem)
            counted[len(found)] += 1
            if found != told[0]:
                counted["not the first"] += 1
        self.assertGreater(min(counted[0], counted[1], counted["not the first"]), 50)
        self.assertGreater(counted[2] + counted[3], 20)

    def test_point_105_each_ranking_violates_at_least_as_many(self):
        for problem in few_constraints(small_problems())[::2]:
            found = least_correction(problem)
            self.assertEqual(min(len(wrong) for wrong in violations(problem)), len(found))
            self.assertIn(found, violations(problem))

    def test_examples(self):
        self.assertEqual(least_correction(TWO), (1,))
        self.assertEqual(least_correction((2, (("within", 0, 1, 1), ("within", 0, 2, 2)))), (0,))
        self.assertEqual(least_correction((2, (("within", 0, 1, 1),) * 2 + (("within", 0, 2, 2),))), (2,))
        self.assertEqual(least_correction(FREE), ())


class Blameless(unittest.TestCase):
    def test_point_106_in_no_conflict_and_in_no_correction(self):
        counted = Counter()
        for problem in few_constraints(small_problems()):
            found = blameless(problem)
            self.assertIsInstance(found, tuple)
            for sets in (told_conflicts(problem), told_corrections(problem)):
                free = [index for index in range(len(problem[1])) if not any(index in one for one in sets)]
                self.assertEqual(found, tuple(free), problem)
            if not good_rankings(problem):
                counted[min(len(found), 2)] += 1
        self.assertGreater(min(counted[0], counted[1], counted[2]), 50)

    def test_point_106_left_out(self):
        for problem in few_constraints(small_problems())[::3]:
            left = others_of(problem, blameless(problem))
            some = take(problem, left)
            for function in (conflicts, corrections):
                numbered = [tuple(left[index] for index in one) for one in function(some)]
                self.assertEqual(numbered, function(problem))

    def test_point_106_with_a_good_ranking_all_are(self):
        for problem in few_constraints(small_problems())[::2]:
            if good_rankings(problem):
                self.assertEqual(blameless(problem), tuple(range(len(problem[1]))))
        self.assertEqual((blameless(FREE), blameless(TWO), blameless(ROUND)), ((), (3,), ()))


class Evidence(unittest.TestCase):
    def test_point_104_of_each_correction_and_of_nothing_else(self):
        counted = Counter()
        for problem in few_constraints(small_problems())[::3] + [TWO, NONE, ROUND, FREE]:
            for indexes in every_part(problem)[::1 if len(problem[1]) < 6 else 7] + told_corrections(problem)[:20]:
                if indexes in told_corrections(problem):
                    found = correction_evidence(problem, indexes)
                    self.assertIs(right_correction(problem, indexes, found), True, (problem, indexes, found))
                    self.assertIs(accepts_correction(problem, indexes, found), True)
                    counted[True] += 1
                else:
                    self.assertEqual(not_possible(self, correction_evidence, problem, indexes), "correction")
                    counted[False] += 1
        self.assertGreater(min(counted.values()), 300)

    def test_point_104_twelve_constraints(self):
        told = 0
        for problem in full_problems():
            for indexes in corrections_of_twelve(problem):
                found = correction_evidence(problem, indexes)
                self.assertIs(right_correction(problem, indexes, found), True)
                self.assertIs(accepts_correction(problem, indexes, found), True)
                told += indexes != ()
            for wrong in ((), tuple(range(12)), tuple(range(11)), (3, 7)):
                if wrong not in told_corrections(problem):
                    self.assertEqual(not_possible(self, correction_evidence, problem, wrong), "correction")
        self.assertGreater(told, 100)

    def test_point_104_the_empty_correction(self):
        for problem in few_constraints(small_problems())[::5] + [FREE, (7, ()), (1, ())]:
            if good_rankings(problem):
                ranking, contradictions = correction_evidence(problem, ())
                self.assertIn(ranking, good_rankings(problem))
                self.assertEqual(contradictions, ())
            else:
                self.assertEqual(not_possible(self, correction_evidence, problem, ()), "correction")

    def test_point_104_no_corrections(self):
        for indexes in ((), (0,), (2,), (0, 1), (1, 2), (0, 1, 2), (0, 2, 3), (1, 3), (0, 1, 2, 3), (3,)):
            self.assertEqual(not_possible(self, correction_evidence, TWO, indexes), "correction")
        self.assertEqual(correction_evidence(TWO, (0, 2))[0], (0, 1))


class Judge(unittest.TestCase):
    def by_others(self, problem, indexes):
        """Evidence, right or wrong, by other writers."""
        good = good_rankings(take(problem, others_of(problem, indexes)))
        rankings = good[-2:] + all_rankings(problem[0])[:1]
        each = [contradictions_by_others(more) for more in put_back(problem, indexes)]
        found = [tuple(some[at] if some else None for some in each) for at in (0, -1)]
        found += [one[::-1] for one in found[:1]]
        return [(ranking, one) for ranking in rankings for one in found]

    def test_points_104_and_108_whoever_wrote_it(self):
        counted = Counter()
        for problem in few_constraints(small_problems())[::5] + [TWO, NONE, ROUND]:
            for indexes in told_corrections(problem)[:4] + every_part(problem)[::67]:
                for value in self.by_others(problem, indexes):
                    found = accepts_correction(problem, indexes, value)
                    self.assertIs(found, right_correction(problem, indexes, value), (problem, indexes, value))
                    if found:
                        self.assertIn(indexes, told_corrections(problem))
                    counted[found] += 1
        self.assertGreater(min(counted.values()), 300)

    def test_points_104_and_108_twelve_constraints(self):
        counted = Counter()
        for problem in full_problems()[::3]:
            for indexes in corrections_of_twelve(problem)[:1] + [(0,), (0, 1, 2, 3, 4, 5, 6)]:
                for value in self.by_others(problem, indexes):
                    found = accepts_correction(problem, indexes, value)
                    self.assertIs(found, right_correction(problem, indexes, value))
                    self.assertIs(found and indexes not in told_corrections(problem), False)
                    counted[found] += 1
        self.assertGreater(min(counted.values()), 100)

    def test_point_108_a_contradiction_of_the_part(self):
        short, long, whole = ("cycle", (0, 1, 0)), ("cycle", (1, 0, 1, 0, 1)), ("cycle", (0, 1, 2, 0))
        self.assertEqual(told_corrections(ROUND), [(0,), (1, 2), (1, 3)])
        for one in (short, long, whole, ("cycle", (2, 0, 1, 0, 1, 2))):
            self.assertIs(accepts_correction(ROUND, (0,), ((1, 2, 0), (one,))), True)
        self.assertIs(accepts_correction(ROUND, (1, 2), ((2, 0, 1), (short, whole))), True)
        self.assertIs(accepts_correction(ROUND, (1, 2), ((2, 0, 1), (long, whole))), True)
        # A cycle of the whole problem, but with the constraint that is not put back.
        self.assertIs(accepts_correction(ROUND, (1, 2), ((2, 0, 1), (whole, whole))), False)
        self.assertIs(accepts_correction(ROUND, (1, 2), ((2, 0, 1), (short, short))), False)
        # Two constraints would do, with a third one left out in vain.
        self.assertIs(accepts_correction(ROUND, (1, 2, 3), ((2, 0, 1), (short, whole, whole))), False)

    def test_point_104_contradictions_left_out_doubled_or_in_another_sequence(self):
        ranking, parts = (2, 0, 1), (("cycle", (0, 1, 0)), ("cycle", (0, 1, 2, 0)))
        self.assertIs(accepts_correction(ROUND, (1, 2), (ranking, parts)), True)
        for wrong in (parts[1:], parts[:1], (), parts + parts[1:], parts[:1] + parts, parts[::-1], list(parts), None,
                      parts[0], (parts,), parts[:1] + (None,), parts[:1] + (list(parts[1]),), parts[:1] * 2,
                      parts[1:] * 2, parts[:1] + ((),), parts[:1] + (("cycle", (0, 1, 2)),)):
            self.assertIs(accepts_correction(ROUND, (1, 2), (ranking, wrong)), False, wrong)
        for wrong in ((parts, ranking), (ranking,), (ranking, parts, ()), ranking, parts, [ranking, parts],
                      (ranking,) + parts, (None, parts)):
            self.assertIs(accepts_correction(ROUND, (1, 2), wrong), False)

    def test_point_104_rankings(self):
        parts = (("cycle", (0, 1, 0)), ("cycle", (0, 1, 2, 0)))
        right = 0
        for ranking in all_rankings(3) + [None, (), (2, 0), (2, False, True), (2.0, 0, 1), [2, 0, 1], DEEP_TUPLE]:
            found = accepts_correction(ROUND, (1, 2), (ranking, parts))
            self.assertIs(found, same(ranking, (2, 0, 1)))
            right += found
        self.assertEqual(right, 1)
        good = satisfying(3, ("ahead", 1, 2)) & satisfying(3, ("ahead", 2, 0))
        for ranking in all_rankings(3):
            found = accepts_correction(ROUND, (0,), (ranking, (("cycle", (0, 1, 0)),)))
            self.assertIs(found, ranking in good)

    def test_point_104_the_empty_correction(self):
        for ranking in all_rankings(3):
            self.assertIs(accepts_correction(FREE, (), (ranking, ())), True)
            self.assertIs(accepts_correction(ROUND, (), (ranking, ())), False)
        self.assertIs(accepts_correction(FREE, (), ((0, 1, 2), (("cycle", (0, 1, 0)),))), False)
        self.assertIs(accepts_correction(NONE, (0,), ((1, 0, 2), ())), False)

    def test_point_104_evidence_of_other_constraints(self):
        values = {indexes: correction_evidence(ROUND, indexes) for indexes in told_corrections(ROUND)}
        for told, value in values.items():
            for indexes in every_part(ROUND):
                if indexes not in values:
                    self.assertIs(accepts_correction(ROUND, indexes, value), False)
                else:
                    right = right_correction(ROUND, indexes, value)
                    self.assertIs(accepts_correction(ROUND, indexes, value), right)
                    self.assertTrue(right or indexes != told)

    def test_point_104_evidence_that_is_changed(self):
        accepted = 0
        for problem in [TWO, ROUND, NONE, FREE] + few_constraints(sampled_problems(4, 3)):
            for indexes in told_corrections(problem)[:2]:
                for value in variants(correction_evidence(problem, indexes)):
                    right = right_correction(problem, indexes, value)
                    self.assertIs(accepts_correction(problem, indexes, value), right)
                    accepted += right
        self.assertGreater(accepted, 5)

    def test_point_109_values_of_every_kind(self):
        ranking, parts = (1, 2, 0), (("cycle", (0, 1, 0)),)
        self.assertIs(accepts_correction(ROUND, (0,), (ranking, parts)), True)
        odd = ODD_VALUES + [
            (ranking, DEEP_TUPLE), (ranking, DEEP_LIST), (DEEP_TUPLE, parts), (DEEP_LIST, parts), (ranking, [parts[0]]),
            (ranking, (DEEP_TUPLE,)), (ranking, (DEEP_TUPLE, OTHER_DEEP_TUPLE)), (ranking, (("cycle", DEEP_TUPLE),)),
            (ranking, (("overfull", 1, 0, DEEP_TUPLE),)), (ranking, (None,)), (ranking, "a"), ("120", parts),
            (ranking, None), (None, None), ((1.0, 2, 0), parts), ((True, 2, False), parts), (ranking, {}), ({}, parts),
            (ranking, ([],)), (ranking, ({},)),
        ]
        for indexes in every_part(ROUND):
            for value in odd:
                self.assertIs(accepts_correction(ROUND, indexes, value), False)
        for value in ODD_VALUES:
            self.assertIs(accepts_correction(FREE, (), value), False)


class WrongArguments(unittest.TestCase):
    def test_point_109_problem(self):
        for wrong in NO_PROBLEMS + ODD_VALUES:
            for function in (corrections, least_correction, blameless):
                self.assertEqual(name_of_wrong(self, function, wrong), "problem")
            for indexes in ((), (0,), None):
                self.assertEqual(name_of_wrong(self, correction_evidence, wrong, indexes), "problem")
                self.assertEqual(name_of_wrong(self, accepts_correction, wrong, indexes, None), "problem")

    def test_point_109_indexes(self):
        for problem in (TWO, ROUND, FREE, (3, NONE[1] * 6)):
            for wrong in no_indexes(len(problem[1])):
                self.assertEqual(name_of_wrong(self, correction_evidence, problem, wrong), "indexes")
                for value in (None, ((1, 2, 0), (("cycle", (0, 1, 0)),))):
                    self.assertEqual(name_of_wrong(self, accepts_correction, problem, wrong, value), "indexes")

    def test_point_109_more_than_ten_constraints(self):
        for constraints in (NONE[1] * 6, NONE[1][:1] * 12, ROUND[1] * 3):
            for function in (corrections, least_correction, blameless):
                for many in (11, 12):
                    self.assertEqual(too_large(self, function, (3, constraints[:many])), "constraints")
            ten = (3, constraints[:10])
            self.assertEqual(corrections(ten), told_corrections(ten))
            self.assertEqual(least_correction(ten), min(told_corrections(ten), key=len))
            self.assertIsInstance(blameless(ten), tuple)
            # The others take all problems.
            self.assertIs(accepts_correction((3, constraints), (11,), None), False)
            self.assertEqual(not_possible(self, correction_evidence, (3, constraints), (0, 11)), "correction")

    def test_point_109_not_possible_behind_all_others(self):
        self.assertEqual(name_of_wrong(self, correction_evidence, FREE, (0,)), "indexes")
        self.assertEqual(name_of_wrong(self, correction_evidence, TWO, (2, 0)), "indexes")
        self.assertEqual(name_of_wrong(self, correction_evidence, (3, NONE[1] * 7), ()), "problem")


class TheSameAgain(unittest.TestCase):
    def test_points_2_and_3_arguments_stay_and_results_are_new(self):
        value = [[0, 1], [["cycle", [0, 1, 0]]]]
        before = copy.deepcopy(value)
        for _ in range(2):
            found = corrections(TWO)
            self.assertEqual(found, [(0, 2), (1,)])
            found.clear()
            self.assertEqual((least_correction(TWO), blameless(TWO)), ((1,), (3,)))
            self.assertEqual(correction_evidence(TWO, (1,)), correction_evidence(TWO, (1,)))
            self.assertIs(accepts_correction(TWO, (1,), value), False)
            self.assertEqual(value, before)

    def test_point_107_a_further_constraint(self):
        for problem in few_constraints(threes()[::9] + sampled_problems(4, 5)):
            if len(problem[1]) < 10:
                for one in every_constraint(problem[0])[::5]:
                    wider = plus(problem, one)
                    for wrong in corrections(wider):
                        old = set(wrong) - {len(problem[1])}
                        self.assertTrue(any(set(other) <= old for other in corrections(problem)))


if __name__ == "__main__":
    unittest.main()
