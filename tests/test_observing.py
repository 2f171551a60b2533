"""Points 88 to 98: which items must be seen, and the evidence for it."""

import copy
import unittest
from collections import Counter
from functools import lru_cache
from itertools import combinations

from rankswithin.observing import (
    accepts_seen, accepts_smallest, seen_evidence, smallest, smallest_evidence, tells_all, tells_item,
)
from support import (
    DEEP_LIST, DEEP_TUPLE, NO_PROBLEMS, ODD_VALUES, OTHER_DEEP_TUPLE, all_rankings, contradictions_by_others,
    every_constraint, good_rankings, merging, name_of_wrong, pairs_of, plus, right_pair, right_ranking,
    sampled_problems, small_problems, swap, threes, tiny_problems, told_exchangeable, variants,
)

THREE = (3, (("ahead", 0, 1), ("within", 0, 1, 2), ("within", 1, 2, 3)))
NONE = (3, (("ahead", 0, 1), ("within", 1, 1, 1)))
ROUND = (3, (("ahead", 0, 1), ("ahead", 1, 0)))
FREE = (3, ())
SMALLEST = (
    (("ahead", 0),),
    (((0, 1, 2), (2, 0, 1)), ((0, 1, 2), (0, 2, 1)), ((0, 2, 1), (2, 0, 1))),
)


def sets_of(problem):
    """All sets of items of the problem as ascending tuples, the smaller ones first."""
    items = range(problem[0])
    return [one for size in range(problem[0] + 1) for one in combinations(items, size)]


def places_of(ranking, seen):
    """The places of the seen items in the ranking."""
    return tuple(ranking.index(item) for item in seen)


@lru_cache(maxsize=None)
def told_all(problem, seen):
    """Whether no two different good rankings have the same places of the seen items (point 88)."""
    good = good_rankings(problem)
    return len({places_of(ranking, seen) for ranking in good}) == len(good)


def told_item(problem, seen, item):
    """Whether good rankings with the same places of the seen items have the same place of the item (point 88)."""
    found = {}
    for ranking in good_rankings(problem):
        found.setdefault(places_of(ranking, seen), set()).add(ranking.index(item))
    return all(len(places) == 1 for places in found.values())


def told_smallest(problem):
    """The smallest seen items that tell all (point 90)."""
    return next(seen for seen in sets_of(problem) if told_all(problem, seen))


def hidden_pairs(problem, seen):
    """The pairs of items that are both not seen."""
    return [pair for pair in pairs_of(problem) if not set(pair) & set(seen)]


def right_nevers(problem, seen, value):
    """Whether the value has evidence of the right words for each two unseen items (point 91)."""
    pairs = hidden_pairs(problem, seen)
    if value.__class__ is not tuple or len(value) != len(pairs):
        return False
    return all(right_pair(problem, *pair, part) and part[0] != "both" for pair, part in zip(pairs, value))


def right_open(problem, seen, first, second):
    """Whether these are two different good rankings with the same places of the seen items (point 91)."""
    if not right_ranking(problem, first) or not right_ranking(problem, second):
        return False
    return first != second and places_of(first, seen) == places_of(second, seen)


def right_seen(problem, seen, value):
    """Whether the value is evidence about the seen items (point 91)."""
    if value.__class__ is not tuple or not value or value[0].__class__ is not str:
        return False
    if value[0] == "tells" and len(value) == 2:
        return right_nevers(problem, seen, value[1])
    return value[0] == "open" and len(value) == 3 and right_open(problem, seen, value[1], value[2])


def earlier_sets(problem, seen):
    """The sets for which evidence that the seen items are the smallest tells of two rankings (point 92)."""
    fewer = [one for one in sets_of(problem) if len(one) == len(seen) - 1]
    return fewer + [one for one in sets_of(problem) if len(one) == len(seen) > 0 and one < seen]


def right_smallest(problem, seen, value):
    """Whether the value is evidence that the seen items are the smallest (point 92)."""
    if value.__class__ is not tuple or len(value) != 2 or not right_nevers(problem, seen, value[0]):
        return False
    sets = earlier_sets(problem, seen)
    if value[1].__class__ is not tuple or len(value[1]) != len(sets):
        return False
    if not all(pair.__class__ is tuple and len(pair) == 2 for pair in value[1]):
        return False
    return all(right_open(problem, one, *pair) for one, pair in zip(sets, value[1]))


def cases(step):
    """Small problems with a set of items each: of all of them one out of so many."""
    return [(problem, seen) for problem in small_problems() for seen in sets_of(problem)][::step]


class TellsAll(unittest.TestCase):
    def test_point_88_all_pairs_of_good_rankings(self):
        counted = Counter()
        for problem, seen in cases(4):
            found = tells_all(problem, seen)
            self.assertIs(found, told_all(problem, seen), (problem, seen))
            if good_rankings(problem):
                counted[found] += 1
        self.assertGreater(min(counted[True], counted[False]), 300)

    def test_point_89_of_any_two_exchangeable_items_one_is_seen(self):
        for problem, seen in cases(5):
            covered = all(set(pair) & set(seen) for pair in told_exchangeable(problem))
            self.assertIs(tells_all(problem, seen), covered)

    def test_point_93_further_seen_items_and_constraints(self):
        for problem in tiny_problems()[::3] + threes()[::12] + sampled_problems(4, 4):
            for seen in sets_of(problem):
                if tells_all(problem, seen):
                    for more in sets_of(problem):
                        self.assertIs(tells_all(problem, tuple(sorted(set(seen) | set(more)))), True)
                    for more in every_constraint(problem[0])[::7]:
                        if len(problem[1]) < 12:
                            self.assertIs(tells_all(plus(problem, more), seen), True)

    def test_point_94_all_items_but_one(self):
        for problem in small_problems()[::3]:
            items = tuple(range(problem[0]))
            self.assertIs(tells_all(problem, items), True)
            for item in items:
                self.assertIs(tells_all(problem, items[:item] + items[item + 1:]), True)

    def test_point_95_only_one_ranking_or_none(self):
        for problem in small_problems() + [NONE, ROUND]:
            few = len(good_rankings(problem)) < 2
            self.assertIs(tells_all(problem, ()), few)
            self.assertIs(smallest(problem) == (), few)

    def test_point_96_two_exchangeable_items_of_which_none_is_seen(self):
        for problem, seen in cases(9):
            for one, other in hidden_pairs(problem, seen):
                if (one, other) in told_exchangeable(problem):
                    self.assertIs(tells_all(problem, seen), False)
                    self.assertIs(tells_item(problem, seen, one), False)
                    self.assertIs(tells_item(problem, seen, other), False)

    def test_without_a_good_ranking(self):
        for problem in (NONE, ROUND):
            for seen in sets_of(problem):
                self.assertIs(tells_all(problem, seen), True)
                for item in range(3):
                    self.assertIs(tells_item(problem, seen, item), True)

    def test_point_98(self):
        self.assertEqual(good_rankings(THREE), [(0, 1, 2), (0, 2, 1), (2, 0, 1)])
        self.assertEqual([tells_all(THREE, (item,)) for item in range(3)], [False, False, True])
        self.assertIs(tells_item(THREE, (0,), 1), False)


class TellsItem(unittest.TestCase):
    def test_point_88_all_pairs_of_good_rankings(self):
        counted = Counter()
        for problem, seen in cases(13):
            for item in range(problem[0]):
                found = tells_item(problem, seen, item)
                self.assertIs(found, told_item(problem, seen, item), (problem, seen, item))
                if good_rankings(problem) and item not in seen:
                    counted[found] += 1
        self.assertGreater(min(counted[True], counted[False]), 200)

    def test_point_89_seen_or_all_that_are_exchangeable_with_it(self):
        for problem, seen in cases(17):
            for item in range(problem[0]):
                others = [one + other - item for one, other in told_exchangeable(problem) if item in (one, other)]
                known = item in seen or set(others) <= set(seen)
                self.assertIs(tells_item(problem, seen, item), known)

    def test_point_88_no_seen_items_and_all(self):
        for problem in small_problems()[::5]:
            for item in range(problem[0]):
                self.assertIs(tells_item(problem, tuple(range(problem[0])), item), True)
                self.assertIs(tells_item(problem, (item,), item), True)
                places = {ranking.index(item) for ranking in good_rankings(problem)}
                self.assertIs(tells_item(problem, (), item), len(places) < 2)

    def test_point_93_told_all_and_each_item(self):
        for problem, seen in cases(11):
            each = all(tells_item(problem, seen, item) for item in range(problem[0]))
            self.assertIs(tells_all(problem, seen), each)

    def test_seven_items(self):
        self.assertIs(tells_item((7, ()), (0, 1, 2, 3, 4, 5), 6), True)
        self.assertIs(tells_item((7, ()), (0, 1, 2, 3, 4), 6), False)
        pair = (7, tuple(("within", item, 1, 2) for item in (0, 4)) + (("ahead", 1, 2),))
        self.assertIs(tells_item(pair, (4,), 0), True)
        self.assertIs(tells_item(pair, (1, 2, 3, 5, 6), 0), False)


class Smallest(unittest.TestCase):
    def test_point_90_all_sets_of_items(self):
        counted = Counter()
        for problem in small_problems():
            if problem[0] < 7 or len(good_rankings(problem)) < 800:
                found = smallest(problem)
                self.assertIsInstance(found, tuple)
                self.assertEqual(found, told_smallest(problem), problem)
                counted[len(found)] += 1
        for size in range(5):
            self.assertGreater(counted[size], 3)

    def test_point_90_the_first_one_of_the_fewest(self):
        for items in range(1, 8):
            self.assertEqual(smallest((items, ())), tuple(range(items - 1)))
        star = (4, (("ahead", 0, 1), ("ahead", 1, 2)))
        self.assertEqual((told_exchangeable(star), smallest(star)), ([(0, 3), (1, 3), (2, 3)], (3,)))
        self.assertEqual(smallest((4, (("within", 0, 1, 2), ("within", 1, 1, 2)))), (0, 2))
        self.assertEqual(smallest((2, ())), (0,))

    def test_point_98(self):
        self.assertEqual(smallest(THREE), (2,))


class SeenEvidence(unittest.TestCase):
    def test_point_91_accepted_and_right(self):
        counted = Counter()
        for problem, seen in cases(5):
            found = seen_evidence(problem, seen)
            self.assertIs(right_seen(problem, seen, found), True, (problem, seen, found))
            self.assertIs(accepts_seen(problem, seen, found), True)
            self.assertEqual(found[0], "tells" if told_all(problem, seen) else "open")
            counted[found[0]] += 1
        self.assertGreater(min(counted["tells"], counted["open"]), 300)

    def test_point_91_no_pairs_left(self):
        for problem in (THREE, NONE, ROUND, FREE):
            for seen in ((0, 1, 2), (0, 1), (0, 2), (1, 2)):
                self.assertEqual(seen_evidence(problem, seen), ("tells", ()))
        self.assertEqual(seen_evidence((1, ()), ()), ("tells", ()))
        self.assertEqual(seen_evidence((1, ()), (0,)), ("tells", ()))

    def test_point_98(self):
        self.assertEqual(seen_evidence(THREE, (2,)), ("tells", (("ahead", 0),)))
        self.assertEqual((seen_evidence(THREE, ())[0], seen_evidence(THREE, (0,))[0]), ("open", "open"))


class AcceptsSeen(unittest.TestCase):
    def by_others(self, problem, seen):
        """Evidence of both words, right or wrong, by other writers."""
        rankings = good_rankings(problem)
        good = set(rankings)
        some = rankings[::max(1, len(rankings) // 6)] + all_rankings(problem[0])[:2]
        found = [("open", first, second) for first in some for second in some]
        parts = []
        for one, other in hidden_pairs(problem, seen):
            ahead = [("ahead", at) for at, row in enumerate(problem[1]) if set(row[1:]) == {one, other}]
            never = [("never", value) for value in contradictions_by_others(merging(problem, one, other))[-1:]]
            both = [("both", ranking) for ranking in rankings if swap(ranking, one, other) in good]
            parts.append((ahead + never + both + [("ahead", 0)])[0])
        return found + [("tells", tuple(parts))]

    def test_point_91_whoever_wrote_it(self):
        accepted = Counter()
        for problem, seen in cases(23):
            told = told_all(problem, seen)
            for value in self.by_others(problem, seen):
                found = accepts_seen(problem, seen, value)
                self.assertIs(found, right_seen(problem, seen, value), (problem, seen, value))
                if found:
                    self.assertIs(value[0] == "tells", told)
                    accepted[value[0]] += 1
        self.assertGreater(min(accepted["tells"], accepted["open"]), 100)

    def test_point_91_all_pairs_of_rankings(self):
        for problem in tiny_problems()[::5] + threes()[::20] + [THREE, NONE, ROUND, FREE]:
            good = set(good_rankings(problem))
            for seen in sets_of(problem):
                for first in all_rankings(problem[0]):
                    for second in all_rankings(problem[0]):
                        right = {first, second} <= good and first != second
                        right = right and places_of(first, seen) == places_of(second, seen)
                        self.assertIs(accepts_seen(problem, seen, ("open", first, second)), right)

    def test_point_91_parts_left_out_doubled_or_in_another_order(self):
        problem = (4, (("ahead", 0, 1), ("ahead", 2, 3), ("within", 0, 1, 1), ("within", 3, 4, 4)))
        word, parts = seen_evidence(problem, (1,))
        self.assertEqual((word, len(parts)), ("tells", 3))
        self.assertIs(accepts_seen(problem, (1,), (word, parts)), True)
        for wrong in (parts[1:], parts[:-1], parts + parts[-1:], parts[:1] + parts, (), parts[:1], parts[::-1],
                      parts[1:] + parts[:1], list(parts), parts[0], None, (parts,), parts[:2] + (None,)):
            self.assertIs(accepts_seen(problem, (1,), (word, wrong)), False)
        for other in ((), (0,), (2,), (3,), (0, 1)):
            self.assertIs(accepts_seen(problem, other, (word, parts)), False)

    def test_point_91_both_is_no_evidence_that_the_seen_items_tell_all(self):
        self.assertIs(accepts_seen((2, ()), (), ("tells", (("both", (0, 1)),))), False)
        self.assertIs(accepts_seen((2, ()), (0,), ("tells", ())), True)
        self.assertIs(accepts_seen((2, ()), (), ("tells", ())), False)

    def test_point_91_evidence_of_the_other_word(self):
        for problem, seen in cases(29):
            told = seen_evidence(problem, seen)
            for word in ("tells", "open", "both", "never", "ahead", "none", "", "cycle"):
                self.assertIs(accepts_seen(problem, seen, (word,) + told[1:]), word == told[0])

    def test_point_91_evidence_that_is_changed(self):
        accepted = 0
        for problem, seen in cases(311) + [(THREE, (2,)), (THREE, (0,))]:
            for value in variants(seen_evidence(problem, seen)):
                right = right_seen(problem, seen, value)
                self.assertIs(accepts_seen(problem, seen, value), right)
                accepted += right
        self.assertGreater(accepted, 5)

    def test_point_97_values_of_every_kind(self):
        odd = list(ODD_VALUES)
        for word in ("tells", "open"):
            odd += [word, (word,), (word, None), (word, DEEP_TUPLE), (word, DEEP_LIST), (word, DEEP_TUPLE, DEEP_TUPLE)]
            odd += [(word, (0, 1, 2)), (word, (), ()), (word, []), [word, ()], (word, (0, 1, 2), DEEP_TUPLE)]
            odd += [([word], ()), (word, [()] * 3)]
            odd += [(word, (DEEP_TUPLE,)), (word, (DEEP_TUPLE,) * 3), (word, (("never", DEEP_TUPLE),) * 3)]
            odd += [(word, (("ahead", DEEP_TUPLE),)), (word, DEEP_TUPLE, OTHER_DEEP_TUPLE)]
            odd += [(word, [0, 1, 2], [0, 2, 1])]
            odd += [(word, (False, True, 2), (0, 2, 1)), (word, (0, 1, 2), (0, 2, True)), (word, "012", "021")]
            odd += [(word, (0.0, 1, 2), (0, 2, 1)), (word, (0, 1), (1, 0)), (word, (0, 1, 2), (0, 2, 1), 0)]
        for problem in (THREE, NONE, ROUND, FREE):
            for seen in ((), (0,), (2,)):
                for value in odd:
                    self.assertIs(accepts_seen(problem, seen, value), False)
        for value in ODD_VALUES:
            self.assertIs(accepts_seen((1, ()), (), value), False)


class SmallestEvidence(unittest.TestCase):
    def test_point_92_accepted_and_right(self):
        for problem in small_problems()[::2]:
            if problem[0] < 7:
                seen = told_smallest(problem)
                found = smallest_evidence(problem, seen)
                self.assertIs(right_smallest(problem, seen, found), True, (problem, seen, found))
                self.assertIs(accepts_smallest(problem, seen, found), True)

    def test_point_92_none_where_they_are_not_the_smallest(self):
        for problem in tiny_problems()[::3] + threes()[::5] + sampled_problems(4, 8) + sampled_problems(5, 2):
            for seen in sets_of(problem):
                found = smallest_evidence(problem, seen)
                self.assertIs(found is None, seen != told_smallest(problem))

    def test_point_92_without_seen_items(self):
        self.assertEqual(smallest_evidence((1, ()), ()), ((), ()))
        self.assertEqual(smallest_evidence(ROUND, ())[1], ())
        self.assertEqual(len(smallest_evidence(ROUND, ())[0]), 3)

    def test_seven_items(self):
        for problem in ((7, ()), (7, (("ahead", 0, 1),) * 12), (7, tuple(("ahead", item, 6) for item in range(6)) * 2)):
            seen = smallest(problem)
            found = smallest_evidence(problem, seen)
            self.assertEqual(len(found[1]), len(earlier_sets(problem, seen)))
            self.assertIs(accepts_smallest(problem, seen, found), True)

    def test_point_98(self):
        self.assertIs(smallest_evidence(THREE, (2,)) is None, False)
        self.assertIsNone(smallest_evidence(THREE, (0,)))


class AcceptsSmallest(unittest.TestCase):
    def test_point_92_other_writers(self):
        accepted = 0
        for problem in tiny_problems()[::2] + threes()[::5] + sampled_problems(4, 8):
            good = good_rankings(problem)
            for seen in sets_of(problem):
                nevers = seen_evidence(problem, seen)[1]
                others = []
                for one in earlier_sets(problem, seen):
                    pairs = [(second, first) for first, second in combinations(good, 2)]
                    pairs = [pair for pair in pairs if places_of(pair[0], one) == places_of(pair[1], one)]
                    others.append(pairs[-1] if pairs else (None, None))
                value = (nevers, tuple(others))
                found = accepts_smallest(problem, seen, value)
                self.assertIs(found, right_smallest(problem, seen, value), (problem, seen, value))
                self.assertIs(found, seen == told_smallest(problem))
                accepted += found
        self.assertGreater(accepted, 150)

    def test_point_92_parts_left_out_doubled_or_in_another_order(self):
        nevers, others = SMALLEST
        self.assertIs(accepts_smallest(THREE, (2,), (nevers, others)), True)
        for wrong in (others[1:], others[:-1], others[:1], (), others + others[-1:], others[:1] + others, others[::-1],
                      others[1:] + others[:1], (others[0], others[2], others[1]), list(others), None, others[0],
                      others[:2] + (None,), others[:2] + (list(others[2]),), others[:2] + (others[2] + (0,),),
                      others[:2] + (others[2][:1],), others[:2] + (others[2] + others[2],)):
            self.assertIs(accepts_smallest(THREE, (2,), (nevers, wrong)), False, wrong)
        for wrong in ((), nevers + nevers, list(nevers), None, (("ahead", 1),), (("both", (0, 1, 2)),), ("ahead", 0)):
            self.assertIs(accepts_smallest(THREE, (2,), (wrong, others)), False)
        for wrong in ((others, nevers), (nevers,), (nevers, others, ()), [nevers, others], (nevers, others, others)):
            self.assertIs(accepts_smallest(THREE, (2,), wrong), False)

    def test_point_92_each_pair_either_way(self):
        nevers, others = SMALLEST
        turned = tuple(pair[::-1] for pair in others)
        self.assertIs(accepts_smallest(THREE, (2,), (nevers, turned)), True)
        for at, (first, _) in enumerate(others):
            same = others[:at] + ((first, first),) + others[at + 1:]
            self.assertIs(accepts_smallest(THREE, (2,), (nevers, same)), False)
        self.assertIs(accepts_smallest(THREE, (2,), (nevers, (((0, 2, 1), (2, 0, 1)),) + others[1:])), True)

    def test_point_92_other_seen_items(self):
        value = smallest_evidence(THREE, (2,))
        for seen in sets_of(THREE):
            self.assertIs(accepts_smallest(THREE, seen, value), seen == (2,))
        # The items 1 and 2 tell all as well, and so do all three, but they are not the fewest.
        self.assertIs(accepts_smallest(THREE, (1, 2), ((), SMALLEST[1])), False)
        self.assertIs(accepts_smallest(THREE, (0, 1, 2), ((), ())), False)
        self.assertIs(accepts_smallest((1, ()), (0,), ((), ())), False)
        self.assertIs(accepts_smallest((1, ()), (), ((), ())), True)
        self.assertIs(accepts_smallest((2, ()), (1,), ((), (((0, 1), (1, 0)),))), False)
        self.assertIs(accepts_smallest((2, ()), (0,), ((), (((0, 1), (1, 0)),))), True)

    def test_point_92_evidence_that_is_changed(self):
        accepted = 0
        for problem in [THREE, FREE, (2, ()), (1, ()), ROUND] + sampled_problems(4, 4):
            seen = told_smallest(problem)
            for value in variants(smallest_evidence(problem, seen)):
                right = right_smallest(problem, seen, value)
                self.assertIs(accepts_smallest(problem, seen, value), right)
                accepted += right
        self.assertGreater(accepted, 5)

    def test_point_97_values_of_every_kind(self):
        odd = ODD_VALUES + [
            ((), DEEP_TUPLE), (DEEP_TUPLE, ()), ((DEEP_TUPLE,), (DEEP_TUPLE,)), ((), ((DEEP_TUPLE, DEEP_TUPLE),)),
            ((), ((DEEP_TUPLE, OTHER_DEEP_TUPLE),) * 3), ((("never", DEEP_TUPLE),) * 3, ()), ((), [()]), ([], []),
            ((("ahead", 0),), DEEP_LIST), ((("ahead", 0),), (DEEP_TUPLE,) * 3), ((("ahead", 0),), ((None, None),) * 3),
            ((("ahead", 0),), (((0, 1, 2), DEEP_TUPLE),) * 3), ((("ahead", 0),), ("ab",) * 3), ("ab", "cd"),
            (None, None),
        ]
        for problem in (THREE, FREE, ROUND, NONE):
            for seen in sets_of(problem)[:7]:
                for value in odd:
                    self.assertIs(accepts_smallest(problem, seen, value), False)


class WrongArguments(unittest.TestCase):
    no_seen = [value for value in ODD_VALUES if value != ()] + [
        (1, 0), (2, 1), (0, 0), (1, 1, 2), (0, 2, 1), (3,), (-1,), (0, 3), (-1, 0), (False,), (True,), (0, True),
        (0.0,), ("0",), (None,), (0, None), [0], [], [0, 1], "0", 0, (0, 1, 2, 3), (0, 1, 2, 2), ((0,),), DEEP_TUPLE,
    ]

    def test_point_97_problem(self):
        for wrong in NO_PROBLEMS + ODD_VALUES:
            self.assertEqual(name_of_wrong(self, smallest, wrong), "problem")
            for seen in ((), (0,), None):
                for function in (tells_all, seen_evidence, smallest_evidence):
                    self.assertEqual(name_of_wrong(self, function, wrong, seen), "problem")
                self.assertEqual(name_of_wrong(self, tells_item, wrong, seen, 0), "problem")
                self.assertEqual(name_of_wrong(self, accepts_seen, wrong, seen, None), "problem")
                self.assertEqual(name_of_wrong(self, accepts_smallest, wrong, seen, None), "problem")

    def test_point_97_seen(self):
        for problem in (THREE, NONE, ROUND, FREE):
            for wrong in self.no_seen:
                for function in (tells_all, seen_evidence, smallest_evidence):
                    self.assertEqual(name_of_wrong(self, function, problem, wrong), "seen")
                for item in (0, 3, None):
                    self.assertEqual(name_of_wrong(self, tells_item, problem, wrong, item), "seen")
                self.assertEqual(name_of_wrong(self, accepts_seen, problem, wrong, ("tells", ())), "seen")
                self.assertEqual(name_of_wrong(self, accepts_smallest, problem, wrong, ((), ())), "seen")

    def test_point_97_item(self):
        odd = [value for value in ODD_VALUES if value not in (0, 1, 2)]
        for problem in (THREE, NONE, ROUND):
            for wrong in odd + [True, False, 0.0, -1, 3, 10 ** 40, "0", (0,), [0]]:
                for seen in ((), (0, 1, 2)):
                    self.assertEqual(name_of_wrong(self, tells_item, problem, seen, wrong), "item")


class TheSameAgain(unittest.TestCase):
    def test_point_2_arguments_stay_and_results_are_equal(self):
        value = ["open", [0, 1, 2], [[0, 2, 1]]]
        before = copy.deepcopy(value)
        for _ in range(2):
            self.assertEqual((smallest(THREE), tells_all(THREE, (2,))), ((2,), True))
            self.assertEqual(seen_evidence(THREE, ()), seen_evidence(THREE, ()))
            self.assertEqual(smallest_evidence(THREE, (2,)), smallest_evidence(THREE, (2,)))
            self.assertIs(accepts_seen(THREE, (0,), value), False)
            self.assertIs(accepts_smallest(THREE, (2,), value), False)
            self.assertEqual(value, before)


if __name__ == "__main__":
    unittest.main()
