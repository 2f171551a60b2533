"""Point 111: names."""

import copy
import unittest

from rankswithin.naming import are_names
from support import DEEP_LIST, DEEP_TUPLE, NO_NAMES, ODD_VALUES

SEVEN = ("a", "zz", "ann", "bob", "cid", "dora", "abcdefgh")


class Names(unittest.TestCase):
    def test_point_111_one_to_seven_names(self):
        for many in range(1, 8):
            self.assertIs(are_names(SEVEN[:many]), True)
        self.assertIs(are_names(()), False)
        self.assertIs(are_names(SEVEN + ("more",)), False)
        self.assertIs(are_names(SEVEN[:6] + ("more", "most")), False)

    def test_point_111_one_to_eight_letters(self):
        for many in range(12):
            self.assertIs(are_names(("x" * many,)), 1 <= many <= 8)
            self.assertIs(are_names(("ann", "x" * many)), 1 <= many <= 8)
        self.assertIs(are_names(("x" * 10 ** 6,)), False)

    def test_point_111_a_to_z_alone(self):
        letters = "abcdefghijklmnopqrstuvwxyz"
        for code in list(range(0x250)) + [0x2170, 0xFF41, 0xFF11, 0x10FFFF, 0xD800, 0x1D41A, 0x0430]:
            sign = chr(code)
            for name in (sign, "a" + sign, sign + "a", "a" + sign + "b"):
                self.assertIs(are_names((name,)), sign in letters, repr(name))
        for letter in letters:
            self.assertIs(are_names((letter * 8,)), True)

    def test_point_111_other_signs(self):
        for name in ("", " ", "an n", " ann", "ann ", "Ann", "anN", "ANN", "a1", "1", "a.b", "..", "<", ";", "a-b",
                     "a_b", "\n", "ann\n", "ann\t", "\u00e9", "\u00df", "\u017f", "e\u0301"):
            self.assertIs(are_names((name,)), False, repr(name))
            self.assertIs(are_names(("bob", name)), False, repr(name))
            self.assertIs(are_names((name, "bob")), False, repr(name))

    def test_point_111_different_names(self):
        self.assertIs(are_names(("ann", "ann")), False)
        self.assertIs(are_names(("ann", "bob", "ann")), False)
        self.assertIs(are_names(SEVEN[:6] + ("a",)), False)
        self.assertIs(are_names(("ann", "an", "annn", "nna")), True)

    def test_point_111_lists_and_other_kinds(self):
        for value in (["ann"], ["ann", "bob"], "ann", "a", {"ann"}, {"ann": "bob"}, None, iter(("ann",))):
            self.assertIs(are_names(value), False)

    def test_values_of_every_kind(self):
        for value in NO_NAMES:
            self.assertIs(are_names(value), False)
        names = ("within", "ahead", "cycle", "overfull", "ranking", "ab", "abcd")
        for value in ODD_VALUES + [DEEP_TUPLE, DEEP_LIST]:
            self.assertIs(are_names((value, "ann")), value in names)

    def test_point_2_the_same_again(self):
        value = ["ann", ["bob"]]
        before = copy.deepcopy(value)
        for _ in range(2):
            self.assertIs(are_names(value), False)
            self.assertIs(are_names(SEVEN), True)
            self.assertEqual(value, before)


if __name__ == "__main__":
    unittest.main()
