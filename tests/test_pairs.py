"""Points 79 to 87: exchangeable items, components, merged problems, and evidence about two items."""

import copy
import unittest
from collections import Counter
from itertools import combinations

from rankswithin.exchanges import exchanges_in
from rankswithin.pairs import accepts_pair, components, exchangeable, merged, pair_evidence
from support import (
    DEEP_LIST, DEEP_TUPLE, NO_PROBLEMS, ODD_VALUES, all_rankings, between, contradictions_by_others, every_constraint,
    good_rankings, merging, name_of_wrong, not_possible, pairs_of, plus, right_pair, sampled_problems, small_problems,
    swap, threes, tiny_problems, told_contradiction, told_exchangeable, variants,
)

STILL = (4, (("within", 3, 4, 4), ("within", 1, 2, 2)))
AHEAD = (4, (("within", 3, 4, 4), ("ahead", 0, 1)))
NONE = (3, (("ahead", 0, 1), ("within", 1, 1, 1)))
ROUND = (3, (("ahead", 0, 1), ("ahead", 1, 0)))
WORDS = ("both", "ahead", "never")


def told_components(problem):
    """The components, item by item (point 82)."""
    pairs, found = told_exchangeable(problem), []
    for item in range(problem[0]):
        group = {item}
        while any(len(group & set(pair)) == 1 for pair in pairs):
            group |= next(set(pair) for pair in pairs if len(group & set(pair)) == 1)
        if tuple(sorted(group)) not in found:
            found.append(tuple(sorted(group)))
    return tuple(found)


def cases(step):
    """Small problems with two items each: of all of them one out of so many."""
    return [(problem, one, other) for problem in small_problems() for one, other in pairs_of(problem)][::step]


class Merged(unittest.TestCase):
    def test_point_80_constraint_by_constraint(self):
        for problem, one, other in cases(1):
            if not between(problem, one, other):
                found = merged(problem, one, other)
                self.assertIsInstance(found, tuple)
                self.assertEqual(found, merging(problem, one, other)[1], (problem, one, other))

    def test_point_80_the_rankings_that_are_good_as_they_are_and_exchanged(self):
        for problem, one, other in cases(3):
            if not between(problem, one, other):
                good = set(good_rankings(problem))
                both = sorted(ranking for ranking in good if swap(ranking, one, other) in good)
                self.assertEqual(good_rankings((problem[0], merged(problem, one, other))), both)

    def test_point_80_more_than_twelve_constraints(self):
        problem = (4, (("ahead", 0, 2), ("within", 1, 1, 3)) * 6)
        expected = problem[1] + (("ahead", 1, 2), ("within", 0, 1, 3)) * 6
        self.assertEqual(merged(problem, 0, 1), expected)
        self.assertEqual(len(merged(problem, 0, 3)), 18)
        self.assertIn((0, 1), exchangeable(problem))
        self.assertIs(accepts_pair(problem, 0, 1, pair_evidence(problem, 0, 1)), True)

    def test_point_80_what_has_one_of_the_two_alone(self):
        rows = (("within", 0, 1, 2), ("within", 2, 1, 4), ("ahead", 3, 1), ("ahead", 1, 2), ("ahead", 2, 3))
        turned = (("within", 1, 1, 2), ("ahead", 3, 0), ("ahead", 0, 2))
        self.assertEqual(merged((4, rows), 0, 1), rows + turned)
        self.assertEqual(merged((4, rows), 0, 2), rows + (
            ("within", 2, 1, 2), ("within", 0, 1, 4), ("ahead", 1, 0), ("ahead", 0, 3),
        ))
        self.assertEqual(merged((3, ()), 0, 2), ())
        # The same constraint for both of the two comes twice.
        same = (("within", 0, 1, 2), ("within", 1, 1, 2))
        self.assertEqual(merged((3, same), 0, 1), same + (("within", 1, 1, 2), ("within", 0, 1, 2)))

    def test_point_80_exchangeable_if_and_only_if_some_ranking_is_good_for_it(self):
        for problem, one, other in cases(2):
            some = not between(problem, one, other) and bool(good_rankings(merging(problem, one, other)))
            self.assertIs((one, other) in exchangeable(problem), some)


class Exchangeable(unittest.TestCase):
    def test_point_79_all_rankings(self):
        some = 0
        for problem in small_problems():
            found = exchangeable(problem)
            self.assertIsInstance(found, list)
            self.assertEqual(found, told_exchangeable(problem), problem)
            some += 0 < len(found) < len(pairs_of(problem))
        self.assertGreater(some, 200)

    def test_point_79_in_some_good_ranking(self):
        for problem in threes()[::6] + sampled_problems(4, 8):
            found = {pair for ranking in good_rankings(problem) for pair in exchanges_in(problem, ranking)}
            self.assertEqual(exchangeable(problem), sorted(found))

    def test_point_83_a_good_ranking_is_the_only_one(self):
        alone = 0
        for problem in small_problems():
            if good_rankings(problem):
                self.assertIs(len(good_rankings(problem)) == 1, exchangeable(problem) == [])
                alone += exchangeable(problem) == []
        self.assertGreater(alone, 50)

    def test_point_84_with_further_constraints(self):
        for problem in tiny_problems()[::2] + threes()[::9] + sampled_problems(4, 6):
            before = set(exchangeable(problem))
            for more in every_constraint(problem[0])[::3]:
                if len(problem[1]) < 12:
                    self.assertLessEqual(set(exchangeable(plus(problem, more))), before)

    def test_point_85_without_a_good_ranking(self):
        for problem in small_problems() + [NONE, ROUND]:
            if not good_rankings(problem):
                self.assertEqual(exchangeable(problem), [])
                self.assertEqual(components(problem), tuple((item,) for item in range(problem[0])))

    def test_edges(self):
        self.assertEqual((exchangeable((1, ())), components((1, ()))), ([], ((0,),)))
        for items in range(2, 8):
            self.assertEqual(exchangeable((items, ())), list(combinations(range(items), 2)))
            self.assertEqual(components((items, ())), (tuple(range(items)),))
        chain = (7, tuple(("ahead", item, item + 1) for item in range(6)) * 2)
        self.assertEqual((exchangeable(chain), len(components(chain))), ([], 7))


class Components(unittest.TestCase):
    def test_point_82_all_rankings(self):
        several = 0
        for problem in small_problems():
            found = components(problem)
            self.assertIsInstance(found, tuple)
            self.assertEqual({part.__class__ for part in found}, {tuple})
            self.assertEqual(found, told_components(problem), problem)
            several += 1 < len(found) < problem[0]
        self.assertGreater(several, 100)

    def test_point_82_their_places_are_the_same_in_all_good_rankings(self):
        for problem in small_problems():
            for group in components(problem):
                taken = {tuple(sorted(one.index(item) for item in group)) for one in good_rankings(problem)}
                self.assertLessEqual(len(taken), 1)

    def test_point_82_two_of_two_items_connected_by_others(self):
        problem = (5, (("within", 4, 1, 2), ("within", 1, 1, 2), ("ahead", 0, 3)))
        self.assertEqual(components(problem), ((0, 2, 3), (1, 4)))
        self.assertEqual(exchangeable(problem), [(0, 2), (1, 4), (2, 3)])

    def test_point_82_three_are_joined_late(self):
        # The pairs (0, 3) and (1, 2) come before the one that connects them.
        problem = (4, (("ahead", 0, 1), ("ahead", 0, 2), ("ahead", 1, 3)))
        self.assertEqual(components(problem), told_components(problem))
        problem = (6, (("within", 0, 1, 2), ("within", 5, 1, 2), ("within", 1, 3, 4), ("within", 4, 3, 4)))
        self.assertEqual(components(problem), ((0, 5), (1, 4), (2, 3)))

    def test_point_87(self):
        self.assertEqual(components(STILL), ((0, 2), (1,), (3,)))
        self.assertEqual((components(AHEAD), exchangeable(AHEAD)), (((0, 1, 2), (3,)), [(0, 2), (1, 2)]))


class PairEvidence(unittest.TestCase):
    def test_point_81_accepted_and_right(self):
        counted = Counter()
        for problem, one, other in cases(2):
            found = pair_evidence(problem, one, other)
            self.assertIs(right_pair(problem, one, other, found), True, (problem, one, other, found))
            self.assertIs(accepts_pair(problem, one, other, found), True)
            exchanged = (one, other) in told_exchangeable(problem)
            self.assertIs(found[0] == "both", exchanged)
            counted[found[0]] += 1
        for word in WORDS:
            self.assertGreater(counted[word], 100)

    def test_point_81_seven_items_and_twelve_constraints(self):
        first, last = [("ahead", 0, item) for item in range(1, 7)], [("ahead", item, 6) for item in range(6)]
        problem = (7, tuple(first + last))
        for one, other in pairs_of(problem):
            word = "ahead" if one == 0 or other == 6 else "both"
            found = pair_evidence(problem, one, other)
            self.assertEqual(found[0], word)
            self.assertIs(accepts_pair(problem, one, other, found), True)

    def test_point_87(self):
        self.assertEqual(pair_evidence(AHEAD, 2, 3)[0], "never")
        self.assertEqual(pair_evidence(AHEAD, 0, 1), ("ahead", 1))
        self.assertEqual(pair_evidence(STILL, 0, 2)[0], "both")


class Judge(unittest.TestCase):
    def by_others(self, problem, one, other):
        """Evidence of all words, right or wrong, by other writers."""
        rankings = good_rankings(problem)
        some = rankings[::max(1, len(rankings) // 9)] + all_rankings(problem[0])[:5]
        found = [("both", ranking) for ranking in some]
        found += [("ahead", index) for index in range(-2, len(problem[1]) + 2)] + [("ahead", True), ("ahead", False)]
        for each in (problem, merging(problem, one, other)):
            found += [("never", value) for value in contradictions_by_others(each)[-4:]]
        return found

    def test_point_81_whoever_wrote_it(self):
        accepted = Counter()
        for problem, one, other in cases(13):
            exchanged = (one, other) in told_exchangeable(problem)
            for value in self.by_others(problem, one, other):
                found = accepts_pair(problem, one, other, value)
                self.assertIs(found, right_pair(problem, one, other, value), (problem, one, other, value))
                if found:
                    self.assertIs(value[0] == "both", exchanged)
                    accepted[value[0]] += 1
        for word in WORDS:
            self.assertGreater(accepted[word], 50)

    def test_point_81_all_rankings(self):
        for problem, one, other in cases(11):
            good = set(good_rankings(problem))
            for ranking in all_rankings(problem[0])[:150]:
                right = ranking in good and swap(ranking, one, other) in good
                self.assertIs(accepts_pair(problem, one, other, ("both", ranking)), right)

    def test_point_81_the_index_of_an_ahead_constraint_between_the_two(self):
        problem = (3, (("within", 0, 1, 3), ("ahead", 1, 0), ("ahead", 0, 2), ("ahead", 1, 0)))
        accepted = [index for index in range(-6, 8) if accepts_pair(problem, 0, 1, ("ahead", index))]
        self.assertEqual(accepted, [1, 3])
        self.assertEqual([index for index in range(-6, 8) if accepts_pair(problem, 0, 2, ("ahead", index))], [2])
        self.assertEqual([index for index in range(-6, 8) if accepts_pair(problem, 1, 2, ("ahead", index))], [])
        for wrong in (True, False, None, 1.0, "1", (1,), [1], 4, -1, -3, 10 ** 40):
            self.assertIs(accepts_pair(problem, 0, 1, ("ahead", wrong)), False)
        self.assertIs(accepts_pair((2, ()), 0, 1, ("ahead", 0)), False)
        self.assertIs(accepts_pair((2, (("ahead", 1, 0),)), 0, 1, ("ahead", 0)), True)
        self.assertIs(accepts_pair((2, (("ahead", 1, 0),)), 0, 1, ("ahead", False)), False)

    def test_point_81_never_if_an_ahead_constraint_stands_between(self):
        for value in (("cycle", (0, 1, 0)), ("cycle", (1, 0, 1))):
            self.assertIs(accepts_pair(ROUND, 0, 1, ("never", value)), False)
            self.assertIs(accepts_pair(ROUND, 0, 2, ("never", value)), True)
        told = told_contradiction(NONE)
        self.assertIs(accepts_pair(NONE, 0, 1, ("never", told)), False)
        self.assertIs(accepts_pair(NONE, 0, 2, ("never", told)), True)
        self.assertIs(accepts_pair(NONE, 1, 2, ("never", told)), True)

    def test_point_81_a_contradiction_of_the_merged_problem_alone(self):
        problem = (2, (("within", 0, 1, 1),))
        rows = ((0, (0,), (0,)), (1, (1,), (1,)))
        self.assertIs(accepts_pair(problem, 0, 1, ("never", ("overfull", 1, 1, rows))), True)
        self.assertIs(accepts_pair(problem, 0, 1, ("never", ("overfull", 1, 1, rows[:1]))), False)
        self.assertIs(accepts_pair(problem, 0, 1, ("never", ("overfull", 2, 2, rows))), False)
        self.assertIs(accepts_pair((2, ()), 0, 1, ("never", ("overfull", 1, 1, rows))), False)

    def test_point_81_evidence_of_the_other_words(self):
        for problem, one, other in cases(17):
            told = pair_evidence(problem, one, other)
            for word in WORDS + ("cycle", "ranking", "contradiction", "open", "", "bothall"):
                value = (word,) + told[1:]
                self.assertIs(accepts_pair(problem, one, other, value), word == told[0])

    def test_point_81_evidence_that_is_changed(self):
        accepted = 0
        for problem, one, other in cases(97):
            for value in variants(pair_evidence(problem, one, other)):
                right = right_pair(problem, one, other, value)
                self.assertIs(accepts_pair(problem, one, other, value), right)
                accepted += right
        self.assertGreater(accepted, 20)

    def test_point_86_values_of_every_kind(self):
        odd = list(ODD_VALUES)
        for word in WORDS:
            odd += [word, (word,), (word, None), (word, ()), (word, DEEP_TUPLE), (word, DEEP_LIST), (word, [0, 1, 2])]
            odd += [(word, (0, 1)), (word, (0, 1, 2), 0), [word, (0, 1, 2)], [word, 0], (word, 0, 0), ([word], 0)]
            odd += [(word, ("cycle", DEEP_TUPLE)), (word, ("cycle",)), (word, (False, True, 2)), ((word, 0),)]
            odd += [(word, "0")]
        for problem in (NONE, ROUND, (3, ()), (3, (("within", 0, 1, 1),))):
            for one, other in pairs_of(problem):
                for value in odd:
                    self.assertIs(accepts_pair(problem, one, other, value), False)


class WrongArguments(unittest.TestCase):
    def test_point_86_problem(self):
        for wrong in NO_PROBLEMS + ODD_VALUES:
            self.assertEqual(name_of_wrong(self, exchangeable, wrong), "problem")
            self.assertEqual(name_of_wrong(self, components, wrong), "problem")
            for one, other in ((0, 1), (None, None)):
                self.assertEqual(name_of_wrong(self, merged, wrong, one, other), "problem")
                self.assertEqual(name_of_wrong(self, pair_evidence, wrong, one, other), "problem")
                self.assertEqual(name_of_wrong(self, accepts_pair, wrong, one, other, None), "problem")

    def test_point_86_one_and_other(self):
        odd = [value for value in ODD_VALUES if value not in (0, 1, 2)]
        odd += [True, False, 0.0, 2.0, -1, 3, 10 ** 40, "0", (0,), [0]]
        for problem in ((3, ()), NONE, ROUND):
            for function, more in ((merged, []), (pair_evidence, []), (accepts_pair, [None])):
                for wrong in odd:
                    for other in (0, 1, 3, wrong):
                        self.assertEqual(name_of_wrong(self, function, problem, wrong, other, *more), "one")
                    self.assertEqual(name_of_wrong(self, function, problem, 0, wrong, *more), "other")
                for one, other in ((1, 0), (2, 0), (2, 1), (0, 0), (1, 1), (2, 2), (2, 3)):
                    self.assertEqual(name_of_wrong(self, function, problem, one, other, *more), "other")
        self.assertEqual(name_of_wrong(self, merged, (1, ()), 0, 0), "other")
        self.assertEqual(name_of_wrong(self, merged, (1, ()), 0, 1), "other")
        self.assertEqual(name_of_wrong(self, merged, (1, ()), 1, 2), "one")

    def test_point_86_ahead(self):
        refused = 0
        for problem, one, other in cases(2):
            if between(problem, one, other):
                self.assertEqual(not_possible(self, merged, problem, one, other), "ahead")
                refused += 1
        self.assertGreater(refused, 200)
        self.assertEqual(not_possible(self, merged, (2, (("ahead", 1, 0),)), 0, 1), "ahead")
        self.assertEqual(not_possible(self, merged, (2, (("ahead", 0, 1),)), 0, 1), "ahead")

    def test_point_86_ahead_comes_behind_all_others(self):
        self.assertEqual(name_of_wrong(self, merged, ROUND, 1, 0), "other")
        self.assertEqual(name_of_wrong(self, merged, ROUND, True, 1), "one")
        self.assertEqual(name_of_wrong(self, merged, (3, ROUND[1] * 7), 0, 1), "problem")


class TheSameAgain(unittest.TestCase):
    def test_point_2_arguments_stay_and_results_are_equal(self):
        value = ["both", [0, 1, 2, 3]]
        before = copy.deepcopy(value)
        for _ in range(2):
            found = exchangeable(AHEAD)
            self.assertEqual(found, [(0, 2), (1, 2)])
            found.append((0, 1))
            self.assertEqual(pair_evidence(AHEAD, 0, 2), pair_evidence(AHEAD, 0, 2))
            self.assertEqual(merged(AHEAD, 0, 2), (("within", 3, 4, 4), ("ahead", 0, 1), ("ahead", 2, 1)))
            self.assertIs(accepts_pair(AHEAD, 0, 2, value), False)
            self.assertEqual(value, before)


if __name__ == "__main__":
    unittest.main()
