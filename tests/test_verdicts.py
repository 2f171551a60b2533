"""Points 53 to 56 and 61 to 64: negations, verdicts and the evidence for them."""

import copy
import unittest
from collections import Counter

from rankswithin.verdicts import accepts_verdict, negation, verdict, verdict_evidence
from support import (
    DEEP_LIST, DEEP_TUPLE, NO_CONSTRAINTS_OF_THREE, NO_PROBLEMS, ODD_VALUES, OTHER_DEEP_TUPLE, VERDICTS, all_rankings,
    contradictions_by_others, denying, every_constraint, good_rankings, is_cyclic, meets, name_of_wrong, plus,
    right_ranking, right_verdict, sampled_problems, satisfying, small_problems, threes, tiny_problems, told_evidence,
    told_verdict, variants,
)

THREE = (3, (("within", 2, 1, 2), ("ahead", 2, 0)))
NONE = (3, (("ahead", 0, 1), ("within", 1, 1, 1)))
ROUND = (3, (("ahead", 0, 1), ("ahead", 1, 0)))


def cases(step):
    """Pairs of a small problem and a constraint: of all of them one out of so many."""
    pairs = [(problem, one) for problem in small_problems() for one in every_constraint(problem[0])]
    return pairs[::step]


def full_cases(step):
    """Pairs of a problem with twelve constraints and a further one: of all of them one out of so many."""
    problems = [problem for items in (3, 4, 5) for problem in sampled_problems(items, 60) if len(problem[1]) == 12]
    return [(problem, one) for problem in problems for one in every_constraint(problem[0])][::step]


class Negation(unittest.TestCase):
    def test_point_53_two_one_or_none(self):
        self.assertEqual(negation((4, ()), ("within", 1, 2, 3)), (("within", 1, 1, 1), ("within", 1, 4, 4)))
        self.assertEqual(negation((4, ()), ("within", 1, 1, 2)), (("within", 1, 3, 4),))
        self.assertEqual(negation((4, ()), ("within", 1, 3, 4)), (("within", 1, 1, 2),))
        self.assertEqual(negation((4, ()), ("within", 1, 1, 4)), ())
        self.assertEqual(negation((4, ()), ("ahead", 3, 1)), (("ahead", 1, 3),))
        self.assertEqual(negation((1, ()), ("within", 0, 1, 1)), ())
        self.assertEqual(negation((7, ()), ("within", 6, 4, 4)), (("within", 6, 1, 3), ("within", 6, 5, 7)))

    def test_point_53_all_constraints(self):
        counted = Counter()
        for items in range(1, 8):
            for one in every_constraint(items):
                found = negation((items, ()), one)
                self.assertIsInstance(found, tuple)
                self.assertEqual(found, denying(items, one))
                counted[len(found)] += 1
        self.assertEqual(sorted(counted), [0, 1, 2])

    def test_point_53_satisfied_exactly_if_the_constraint_is_not(self):
        for items in range(1, 6):
            for one in every_constraint(items):
                found = negation((items, ()), one)
                for ranking in all_rankings(items):
                    many = sum(meets(ranking, other) for other in found)
                    self.assertEqual(many, 0 if meets(ranking, one) else 1)

    def test_point_53_the_constraints_of_the_problem_do_not_matter(self):
        for problem in (THREE, NONE, ROUND, (3, NONE[1] * 6)):
            for one in every_constraint(3):
                self.assertEqual(negation(problem, one), denying(3, one))


class Verdict(unittest.TestCase):
    def test_point_54_all_rankings(self):
        counted = Counter()
        for problem, one in cases(4):
            found = verdict(problem, one)
            self.assertEqual(found, told_verdict(problem, one), (problem, one))
            counted[found] += 1
        for word in VERDICTS:
            self.assertGreater(counted[word], 100)

    def test_point_54_all_constraints_of_two_items(self):
        for problem in tiny_problems():
            for one in every_constraint(problem[0]):
                self.assertEqual(verdict(problem, one), told_verdict(problem, one), (problem, one))

    def test_point_54_without_a_good_ranking(self):
        for problem in (NONE, ROUND, (3, ROUND[1] + NONE[1])):
            for one in every_constraint(3):
                self.assertEqual(verdict(problem, one), "none")
        cyclic = 0
        for problem, one in cases(11):
            if is_cyclic(problem):
                self.assertEqual(verdict(problem, one), "none")
                cyclic += 1
        self.assertGreater(cyclic, 50)

    def test_point_54_bounds_that_hold_always(self):
        for items in range(1, 8):
            self.assertEqual(verdict((items, ()), ("within", items - 1, 1, items)), "certain")
        self.assertEqual(verdict((3, ()), ("within", 0, 1, 2)), "open")
        self.assertEqual(verdict((1, ()), ("within", 0, 1, 1)), "certain")

    def test_point_54_twelve_constraints(self):
        counted = Counter()
        for problem, one in full_cases(5):
            found = verdict(problem, one)
            self.assertEqual(found, told_verdict(problem, one), (problem, one))
            counted[found] += 1
        for word in VERDICTS:
            self.assertGreater(counted[word], 20)

    def test_point_61_with_further_constraints(self):
        kept = 0
        for problem in tiny_problems()[::2] + threes()[::9] + sampled_problems(4, 6):
            if len(problem[1]) < 12 and good_rankings(problem):
                choice = every_constraint(problem[0])
                for more in choice[::5]:
                    wider = plus(problem, more)
                    for one in choice[::3]:
                        before, after = verdict(problem, one), verdict(wider, one)
                        if before != "open" and good_rankings(wider):
                            self.assertEqual(after, before)
                            kept += 1
                        if verdict(problem, more) == "certain":
                            self.assertEqual(after, before)
        self.assertGreater(kept, 500)

    def test_points_61_and_62_constraints_that_stand_twice(self):
        for problem in tiny_problems()[::2] + threes()[::5]:
            twice = (problem[0], problem[1] + problem[1])
            if len(twice[1]) <= 12:
                for one in every_constraint(problem[0])[::2]:
                    self.assertEqual(verdict(twice, one), verdict(problem, one))

    def test_point_62_constraints_satisfied_by_the_same_rankings(self):
        for items in (1, 2, 3):
            choice = every_constraint(items)
            pairs = [(one, other) for one in choice for other in choice
                     if one < other and satisfying(items, one) == satisfying(items, other)]
            for problem in tiny_problems() + threes()[::6] + sampled_problems(3, 10):
                if problem[0] == items:
                    for one, other in pairs:
                        self.assertEqual(verdict(problem, one), verdict(problem, other))
        two = (2, (("within", 0, 1, 1),))
        for same_as_it in (("within", 0, 1, 1), ("within", 1, 2, 2), ("ahead", 0, 1)):
            self.assertEqual((verdict(two, same_as_it), verdict((2, ()), same_as_it)), ("certain", "open"))

    def test_point_64(self):
        self.assertEqual(good_rankings(THREE), [(1, 2, 0), (2, 0, 1), (2, 1, 0)])
        self.assertEqual(verdict(THREE, ("within", 0, 2, 3)), "certain")
        self.assertEqual(verdict(THREE, ("within", 0, 1, 1)), "impossible")
        self.assertEqual(verdict(THREE, ("ahead", 0, 1)), "open")


class ToldEvidence(unittest.TestCase):
    def test_point_56_step_by_step(self):
        for problem, one in cases(7):
            self.assertEqual(verdict_evidence(problem, one), told_evidence(problem, one), (problem, one))

    def test_point_56_twelve_constraints(self):
        counted = Counter()
        for problem, one in full_cases(7):
            found = verdict_evidence(problem, one)
            self.assertEqual(found, told_evidence(problem, one), (problem, one))
            self.assertIs(accepts_verdict(problem, one, found), True)
            counted[found[0]] += 1
        for word in VERDICTS:
            self.assertGreater(counted[word], 10)

    def test_point_56_the_first_constraint_of_the_negation_that_leaves_a_ranking(self):
        both = (3, ())
        self.assertEqual(verdict_evidence(both, ("within", 0, 2, 2)), ("open", (1, 0, 2), (0, 1, 2)))
        second = (3, (("within", 0, 2, 3),))
        self.assertEqual(verdict_evidence(second, ("within", 0, 2, 2)), ("open", (1, 0, 2), (1, 2, 0)))

    def test_point_56_certain_without_a_negation(self):
        self.assertEqual(verdict_evidence(THREE, ("within", 1, 1, 3)), ("certain", (2, 0, 1), ()))
        self.assertEqual(verdict_evidence((1, ()), ("within", 0, 1, 1)), ("certain", (0,), ()))

    def test_point_56_each_word(self):
        low = ("overfull", 1, 0, ((2, (2,), (2, 0)),))
        self.assertEqual(verdict_evidence(THREE, ("within", 0, 2, 3)), ("certain", (2, 0, 1), (low,)))
        self.assertEqual(verdict_evidence(THREE, ("within", 0, 1, 1)), ("impossible", (2, 0, 1), low))
        self.assertEqual(verdict_evidence(THREE, ("ahead", 0, 2)), ("impossible", (2, 0, 1), ("cycle", (0, 2, 0))))
        self.assertEqual(verdict_evidence(THREE, ("ahead", 0, 1)), ("open", (2, 0, 1), (1, 2, 0)))
        self.assertEqual(verdict_evidence(ROUND, ("ahead", 0, 2)), ("none", ("cycle", (0, 1, 0))))

    def test_point_56_certain_with_two_contradictions(self):
        problem = (3, (("within", 0, 2, 2),))
        rows = ((0, (0,), (0,)),)
        expected = ("certain", (1, 0, 2), (("overfull", 2, 1, rows), ("overfull", 3, 2, rows)))
        self.assertEqual(verdict_evidence(problem, ("within", 0, 2, 2)), expected)


class Judge(unittest.TestCase):
    def test_point_55_told_evidence_is_accepted(self):
        for problem, one in cases(5):
            self.assertIs(accepts_verdict(problem, one, verdict_evidence(problem, one)), True)

    def by_others(self, problem, constraint):
        """Evidence of all words, right or wrong, by other writers."""
        rankings = good_rankings(problem)[-3:] + all_rankings(problem[0])[:2]
        denied = [plus(problem, one) for one in denying(problem[0], constraint)]
        each = [contradictions_by_others(one)[-2:] for one in [problem, plus(problem, constraint)] + denied]
        found = [("none", one) for some in each for one in some]
        for ranking in rankings:
            found += [("open", ranking, other) for other in rankings]
            found += [("impossible", ranking, one) for some in each for one in some]
            found += [("certain", ranking, ())]
            found += [("certain", ranking, (one,)) for some in each for one in some]
            found += [("certain", ranking, (one, other)) for some in each for one in some for other in each[-1]]
        return found

    def test_point_55_evidence_of_exactly_one_word_whoever_wrote_it(self):
        accepted = Counter()
        for problem, one in cases(97) + full_cases(61):
            told = told_verdict(problem, one)
            for value in self.by_others(problem, one):
                found = accepts_verdict(problem, one, value)
                self.assertIs(found, right_verdict(problem, one, value), (problem, one, value))
                if found:
                    self.assertEqual(value[0], told)
                    accepted[told] += 1
        for word in VERDICTS:
            self.assertGreater(accepted[word], 50)

    def test_point_55_all_pairs_of_rankings(self):
        for problem in tiny_problems()[::3] + threes()[::12] + [THREE, NONE, ROUND]:
            rankings = all_rankings(problem[0])
            good = set(good_rankings(problem))
            for one in every_constraint(problem[0])[::3]:
                for first in rankings:
                    for second in rankings:
                        right = {first, second} <= good and meets(first, one) and not meets(second, one)
                        self.assertIs(accepts_verdict(problem, one, ("open", first, second)), right)

    def test_point_55_evidence_of_the_other_words(self):
        for problem, one in cases(53):
            told = verdict_evidence(problem, one)
            for word in VERDICTS + ("cycle", "overfull", "ranking", "contradiction", "", "certainly"):
                value = (word,) + told[1:]
                self.assertIs(accepts_verdict(problem, one, value), word == told[0])

    def test_point_55_rankings_turned(self):
        first, second = (2, 0, 1), (1, 2, 0)
        self.assertIs(accepts_verdict(THREE, ("ahead", 0, 1), ("open", first, second)), True)
        self.assertIs(accepts_verdict(THREE, ("ahead", 0, 1), ("open", second, first)), False)
        self.assertIs(accepts_verdict(THREE, ("ahead", 0, 1), ("open", first, first)), False)
        self.assertIs(accepts_verdict(THREE, ("ahead", 0, 1), ("open", second, second)), False)
        self.assertIs(accepts_verdict(THREE, ("ahead", 1, 0), ("open", second, first)), True)
        self.assertIs(accepts_verdict(THREE, ("ahead", 0, 1), ("open", first, (1, 0, 2))), False)
        self.assertIs(accepts_verdict(THREE, ("ahead", 0, 1), ("open", (0, 1, 2), second)), False)

    def test_point_55_contradictions_left_out_doubled_turned_or_of_another_constraint(self):
        problem, one = (3, (("within", 0, 2, 2),)), ("within", 0, 2, 2)
        word, ranking, (low, high) = verdict_evidence(problem, one)
        self.assertEqual(word, "certain")
        self.assertIs(accepts_verdict(problem, one, (word, ranking, (low, high))), True)
        for wrong in ((), (low,), (high,), (high, low), (low, low), (high, high), (low, high, high), (low, low, high),
                      (low, None), (None, high), [low, high], low, high, None, (low, high, ()), ((low, high),)):
            self.assertIs(accepts_verdict(problem, one, (word, ranking, wrong)), False)
        self.assertIs(accepts_verdict(problem, ("within", 0, 1, 3), (word, ranking, ())), True)
        self.assertIs(accepts_verdict(problem, ("within", 0, 1, 3), (word, ranking, (low,))), False)
        for wrong in (("within", 0, 1, 2), ("within", 0, 2, 3), ("within", 1, 2, 2), ("ahead", 1, 0)):
            self.assertIs(accepts_verdict(problem, wrong, (word, ranking, (low, high))), False)

    def test_point_55_rankings_that_are_not_good(self):
        one, other = ("within", 0, 2, 3), ("within", 0, 1, 1)
        certain, impossible = verdict_evidence(THREE, one)[2], verdict_evidence(THREE, other)[2]
        accepted = 0
        for ranking in all_rankings(3) + [None, (), (2, 0), (2, False, True), (2.0, 0, 1), [2, 0, 1], DEEP_TUPLE]:
            right = right_ranking(THREE, ranking)
            accepted += right
            self.assertIs(accepts_verdict(THREE, one, ("certain", ranking, certain)), right)
            self.assertIs(accepts_verdict(THREE, other, ("impossible", ranking, impossible)), right)
        self.assertEqual(accepted, 3)

    def test_point_55_a_contradiction_is_judged_with_the_constraints_that_are_told(self):
        cycle = ("cycle", (0, 1, 0))
        problem = (3, (("ahead", 0, 1),))
        self.assertIs(accepts_verdict(problem, ("ahead", 1, 0), ("impossible", (0, 1, 2), cycle)), True)
        self.assertIs(accepts_verdict(problem, ("ahead", 0, 1), ("certain", (0, 1, 2), (cycle,))), True)
        self.assertIs(accepts_verdict(problem, ("ahead", 1, 0), ("none", cycle)), False)
        self.assertIs(accepts_verdict(problem, ("ahead", 0, 1), ("impossible", (0, 1, 2), cycle)), False)
        self.assertIs(accepts_verdict(problem, ("ahead", 1, 0), ("certain", (0, 1, 2), (cycle,))), False)
        full = (3, problem[1] * 12)
        self.assertIs(accepts_verdict(full, ("ahead", 1, 0), ("impossible", (0, 1, 2), cycle)), True)
        self.assertIs(accepts_verdict(full, ("ahead", 0, 1), ("certain", (0, 1, 2), (cycle,))), True)
        self.assertIs(accepts_verdict((3, ROUND[1] * 6), ("ahead", 0, 2), ("none", cycle)), True)

    def test_point_55_evidence_that_is_changed(self):
        accepted = 0
        for problem, one in cases(409) + [(THREE, ("within", 0, 2, 3)), (THREE, ("ahead", 0, 1))]:
            for value in variants(verdict_evidence(problem, one)):
                right = right_verdict(problem, one, value)
                self.assertIs(accepts_verdict(problem, one, value), right)
                accepted += right
        self.assertGreater(accepted, 50)

    def test_point_63_values_of_every_kind(self):
        odd = list(ODD_VALUES)
        for word in VERDICTS:
            odd += [word, (word,), (word, None), (word, DEEP_TUPLE), (word, None, None), (word, DEEP_TUPLE, DEEP_TUPLE)]
            odd += [(word, (2, 0, 1)), (word, (2, 0, 1), DEEP_TUPLE), (word, (2, 0, 1), DEEP_LIST), (word, (), ())]
            odd += [(word, (2, 0, 1), [()]), [word, (2, 0, 1), ()], (word, (2, 0, 1), (DEEP_TUPLE, OTHER_DEEP_TUPLE))]
            odd += [(word, (2, 0, 1), ("cycle", DEEP_TUPLE)), (word, (2, 0, 1), (("cycle", DEEP_TUPLE),))]
            odd += [(word, (2, 0, 1), (), ()), (word, (2, 0, 1), "cycle"), (word, (2, 0, 1), ("cycle",)), ([word],)]
        for problem in (THREE, NONE, ROUND, (3, ())):
            for one in (("within", 0, 2, 3), ("within", 0, 1, 1), ("ahead", 0, 1), ("within", 1, 2, 2)):
                for value in odd:
                    self.assertIs(accepts_verdict(problem, one, value), False)
        for value in ODD_VALUES:
            self.assertIs(accepts_verdict((1, ()), ("within", 0, 1, 1), value), False)
        self.assertIs(accepts_verdict((1, ()), ("within", 0, 1, 1), ("certain", (0,), ())), True)


class WrongArguments(unittest.TestCase):
    def test_point_63_problem(self):
        for wrong in NO_PROBLEMS + ODD_VALUES:
            for constraint in (("ahead", 0, 1), None):
                for function in (verdict, verdict_evidence, negation):
                    self.assertEqual(name_of_wrong(self, function, wrong, constraint), "problem")
                self.assertEqual(name_of_wrong(self, accepts_verdict, wrong, constraint, None), "problem")

    def test_point_63_constraint(self):
        for problem in (THREE, NONE, ROUND, (3, ROUND[1] * 6)):
            for wrong in NO_CONSTRAINTS_OF_THREE + ODD_VALUES:
                for function in (verdict, verdict_evidence, negation):
                    self.assertEqual(name_of_wrong(self, function, problem, wrong), "constraint")
                self.assertEqual(name_of_wrong(self, accepts_verdict, problem, wrong, None), "constraint")
        for wrong in (("ahead", 0, 2), ("within", 2, 1, 1), ("within", 0, 1, 3)):
            self.assertEqual(name_of_wrong(self, verdict, (2, ()), wrong), "constraint")

    def test_points_17_and_55_a_thirteenth_constraint_is_no_error(self):
        problem = (3, (("ahead", 0, 1),) * 12)
        self.assertEqual(verdict(problem, ("ahead", 1, 2)), "open")
        self.assertEqual(verdict_evidence(problem, ("ahead", 1, 2)), ("open", (0, 1, 2), (0, 2, 1)))
        self.assertEqual(negation(problem, ("ahead", 1, 2)), (("ahead", 2, 1),))


class TheSameAgain(unittest.TestCase):
    def test_point_2_arguments_stay_and_results_are_equal(self):
        value = ["open", [2, 0, 1], [[1, 2, 0]]]
        before = copy.deepcopy(value)
        for _ in range(2):
            self.assertEqual(verdict_evidence(THREE, ("ahead", 0, 1)), ("open", (2, 0, 1), (1, 2, 0)))
            self.assertIs(accepts_verdict(THREE, ("ahead", 0, 1), value), False)
            self.assertEqual(value, before)
        self.assertEqual(THREE, (3, (("within", 2, 1, 2), ("ahead", 2, 0))))


if __name__ == "__main__":
    unittest.main()
