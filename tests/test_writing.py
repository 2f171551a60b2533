"""Points 118 to 121: the texts of problems and rankings, and reading what was written."""

import copy
import random
import unittest

from rankswithin.reading import read_problem, read_ranking
from rankswithin.scanning import scan
from rankswithin.writing import problem_text, ranking_text
from support import (
    DEEP_LIST, DEEP_TUPLE, NO_NAMES, NO_PROBLEMS, NO_RANKINGS_OF_THREE, ODD_VALUES, all_rankings, every_constraint,
    full_problems, name_of_wrong, small_problems,
)

NAMES = ("ann", "bob", "cid")
SEVEN = ("abcdefgh", "z", "ann", "bob", "cid", "dora", "zz")


def spread(chance, tokens):
    """A text with the same tokens, and blanks between them, at least where it needs some."""
    text, before = "", None
    for kind, run, _ in tokens:
        least = 1 if kind == before and kind in ("word", "number") else 0
        text += " " * chance.randrange(least, least + 3) + run
        before = kind
    return text


class ProblemText(unittest.TestCase):
    def test_point_118_as_it_is_written(self):
        for text, constraints in (
            ("", ()), ("ann 1..3", (("within", 0, 1, 3),)), ("cid 2..2", (("within", 2, 2, 2),)),
            ("bob < ann", (("ahead", 1, 0),)), ("ann < bob; cid 3..3", (("ahead", 0, 1), ("within", 2, 3, 3))),
            ("ann < bob; ann < bob; bob 1..2", (("ahead", 0, 1), ("ahead", 0, 1), ("within", 1, 1, 2))),
        ):
            self.assertEqual(problem_text(NAMES, (3, constraints)), text)
        self.assertEqual(problem_text(("a",), (1, ())), "")
        self.assertEqual(problem_text(SEVEN, (7, (("ahead", 0, 6), ("within", 1, 1, 7)))), "abcdefgh < zz; z 1..7")

    def test_point_118_all_constraints(self):
        for items in range(1, 8):
            for one in every_constraint(items):
                text = problem_text(SEVEN[:items], (items, (one,)))
                if one[0] == "within":
                    self.assertEqual(text, SEVEN[one[1]] + " " + str(one[2]) + ".." + str(one[3]))
                else:
                    self.assertEqual(text, SEVEN[one[1]] + " < " + SEVEN[one[2]])

    def test_point_118_twelve_constraints(self):
        self.assertEqual(problem_text(NAMES, (3, (("ahead", 2, 1),) * 12)), "; ".join(["cid < bob"] * 12))
        longest = problem_text(("abcdefgh", "ijklmnop"), (2, (("ahead", 0, 1),) * 12))
        self.assertLessEqual(len(longest), 500)
        self.assertEqual(read_problem(("abcdefgh", "ijklmnop"), longest), (2, (("ahead", 0, 1),) * 12))

    def test_point_119_reading_what_was_written(self):
        for problem in small_problems() + full_problems():
            names = SEVEN[:problem[0]]
            self.assertEqual(read_problem(names, problem_text(names, problem)), problem)

    def test_point_119_blanks_change_nothing(self):
        chance = random.Random(119)
        for problem in small_problems()[::3] + full_problems()[::9]:
            names = SEVEN[7 - problem[0]:]
            text = problem_text(names, problem)
            for _ in range(3):
                other = spread(chance, scan(text))
                self.assertEqual([token[:2] for token in scan(other)], [token[:2] for token in scan(text)])
                self.assertEqual(read_problem(names, other), problem)
            self.assertEqual(read_problem(names, text.replace(" ", "")), problem)

    def test_point_121(self):
        problem = (3, (("within", 0, 1, 2), ("ahead", 2, 1)))
        self.assertEqual(problem_text(NAMES, problem), "ann 1..2; cid < bob")
        self.assertEqual(read_problem(NAMES, "ann 1..2; cid < bob"), problem)


class RankingText(unittest.TestCase):
    def test_point_118_as_it_is_written(self):
        self.assertEqual(ranking_text(NAMES, (2, 1, 0)), "cid bob ann")
        self.assertEqual(ranking_text(NAMES, (0, 1, 2)), "ann bob cid")
        self.assertEqual(ranking_text(("a",), (0,)), "a")
        self.assertEqual(ranking_text(SEVEN, (6, 0, 5, 1, 4, 2, 3)), "zz abcdefgh dora z cid ann bob")

    def test_point_119_reading_what_was_written(self):
        chance = random.Random(118)
        for items in range(1, 8):
            names = SEVEN[:items]
            for ranking in all_rankings(items)[::1 if items < 6 else 31]:
                text = ranking_text(names, ranking)
                self.assertEqual(text, " ".join(names[item] for item in ranking))
                self.assertEqual(read_ranking(names, text), ranking)
                self.assertEqual(read_ranking(names, spread(chance, scan(text))), ranking)


class WrongArguments(unittest.TestCase):
    def test_point_120_names(self):
        for wrong in NO_NAMES:
            for second in ((3, ()), (0, 1, 2), None):
                self.assertEqual(name_of_wrong(self, problem_text, wrong, second), "names")
                self.assertEqual(name_of_wrong(self, ranking_text, wrong, second), "names")

    def test_point_120_problem(self):
        for wrong in NO_PROBLEMS + ODD_VALUES + [DEEP_TUPLE, DEEP_LIST]:
            self.assertEqual(name_of_wrong(self, problem_text, NAMES, wrong), "problem")

    def test_point_120_a_problem_with_another_number_of_items(self):
        for many in range(1, 8):
            for items in range(1, 8):
                if many == items:
                    self.assertEqual(problem_text(SEVEN[:many], (items, ())), "")
                else:
                    self.assertEqual(name_of_wrong(self, problem_text, SEVEN[:many], (items, ())), "problem")

    def test_point_120_ranking(self):
        for wrong in NO_RANKINGS_OF_THREE + ODD_VALUES + [(0, 1), (0,), (), (0, 1, 2, 3)]:
            self.assertEqual(name_of_wrong(self, ranking_text, NAMES, wrong), "ranking")
        for many in range(1, 8):
            for items in range(1, 8):
                if many != items:
                    ranking = tuple(range(items))
                    self.assertEqual(name_of_wrong(self, ranking_text, SEVEN[:many], ranking), "ranking")


class TheSameAgain(unittest.TestCase):
    def test_point_2_arguments_stay_and_results_are_equal(self):
        names, problem = ("ann", "bob"), (2, (("ahead", 0, 1),))
        before = copy.deepcopy((names, problem))
        for _ in range(2):
            self.assertEqual(problem_text(names, problem), "ann < bob")
            self.assertEqual(ranking_text(names, (1, 0)), "bob ann")
            self.assertEqual((names, problem), before)


if __name__ == "__main__":
    unittest.main()
