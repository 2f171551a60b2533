"""Points 111, 112 and 120: the tokens of texts."""

import random
import re
import unittest

from rankswithin.scanning import scan
from support import NO_TEXTS, name_of_wrong, text_error

NOTHING = "no token begins here"
LONG_WORD = "a word has at most 8 letters"
LONG_NUMBER = "a number has at most 6 digits"
PIECES = [
    " ", " ", "  ", "a", "ann", "bob", "zz", "1", "0", "23", "000", "..", "..", "<", ";", "a1", "1a", "abcdefgh",
    "123456", ".", "...", "A", "-", "\t", "\u00e9", "\u0663",
]


def parts(text):
    """The kinds and the characters of the tokens of the text."""
    return [token[:2] for token in scan(text)]


def told_tokens(text):
    """The tokens of the text, or the column and the words of its first problem (point 112)."""
    found = []
    for match in re.finditer(r"(?P<blank> +)|(?P<word>[a-z]+)|(?P<number>[0-9]+)|(?P<sign>\.\.|<|;)|(?s:.)", text):
        kind, column, run = match.lastgroup, match.start() + 1, match.group()
        if kind is None:
            return column, NOTHING
        if kind == "word" and len(run) > 8:
            return column, LONG_WORD
        if kind == "number" and len(run) > 6:
            return column, LONG_NUMBER
        if kind != "blank":
            found.append((kind, run, column))
    return found + [("end", "", len(text) + 1)]


class Tokens(unittest.TestCase):
    def test_point_112_each_kind(self):
        self.assertEqual(scan("ann"), [("word", "ann", 1), ("end", "", 4)])
        self.assertEqual(scan("12"), [("number", "12", 1), ("end", "", 3)])
        self.assertEqual(scan(".."), [("sign", "..", 1), ("end", "", 3)])
        self.assertEqual(scan("<"), [("sign", "<", 1), ("end", "", 2)])
        self.assertEqual(scan(";"), [("sign", ";", 1), ("end", "", 2)])

    def test_results_are_tuples_in_a_list(self):
        found = scan("ann 1")
        self.assertIs(found.__class__, list)
        for token in found:
            self.assertIs(token.__class__, tuple)
            self.assertEqual([part.__class__ for part in token], [str, str, int])

    def test_point_112_all_letters_and_digits(self):
        for letter in "abcdefghijklmnopqrstuvwxyz":
            self.assertEqual(scan(letter), [("word", letter, 1), ("end", "", 2)])
        for digit in "0123456789":
            self.assertEqual(scan(digit), [("number", digit, 1), ("end", "", 2)])
        self.assertEqual(parts("000120 x"), [("number", "000120"), ("word", "x"), ("end", "")])

    def test_point_112_side_by_side(self):
        four = [("word", "ann", 1), ("number", "1", 4), ("sign", "..", 5), ("number", "2", 7), ("end", "", 8)]
        self.assertEqual(scan("ann1..2"), four)
        self.assertEqual(parts("ann 1..2"), [token[:2] for token in four])
        self.assertEqual(parts(" ann  1 .. 2 "), [token[:2] for token in four])
        self.assertEqual(parts("a1b2"), [("word", "a"), ("number", "1"), ("word", "b"), ("number", "2"), ("end", "")])
        self.assertEqual(parts("an n"), [("word", "an"), ("word", "n"), ("end", "")])
        self.assertEqual(parts("1 2"), [("number", "1"), ("number", "2"), ("end", "")])
        self.assertEqual(parts("12"), [("number", "12"), ("end", "")])
        self.assertEqual(parts("a<b;c"), parts("a < b ; c"))
        self.assertEqual(parts(";;<<"), [("sign", ";"), ("sign", ";"), ("sign", "<"), ("sign", "<"), ("end", "")])

    def test_point_112_columns(self):
        text = "ann 1..2; cid < bob"
        self.assertEqual([token[2] for token in scan(text)], [1, 5, 6, 8, 9, 11, 15, 17, 20])
        for blanks in range(6):
            moved = [(kind, run, column + blanks) for kind, run, column in scan(text)]
            self.assertEqual(scan(" " * blanks + text), moved)
            self.assertEqual(scan(text + " " * blanks)[:-1], scan(text)[:-1])
            self.assertEqual(scan(text + " " * blanks)[-1], ("end", "", 20 + blanks))

    def test_point_112_no_tokens(self):
        self.assertEqual(scan(""), [("end", "", 1)])
        for blanks in (1, 2, 499, 500):
            self.assertEqual(scan(" " * blanks), [("end", "", blanks + 1)])

    def test_point_112_dots(self):
        self.assertEqual(text_error(self, scan, "."), (1, NOTHING))
        self.assertEqual(text_error(self, scan, "1 . 2"), (3, NOTHING))
        self.assertEqual(text_error(self, scan, "1. .2"), (2, NOTHING))
        self.assertEqual(text_error(self, scan, "..."), (3, NOTHING))
        self.assertEqual(text_error(self, scan, "1...2"), (4, NOTHING))
        self.assertEqual(parts("...."), [("sign", ".."), ("sign", ".."), ("end", "")])
        self.assertEqual(text_error(self, scan, "....."), (5, NOTHING))

    def test_point_112_long_words_and_numbers(self):
        self.assertEqual(scan("abcdefgh"), [("word", "abcdefgh", 1), ("end", "", 9)])
        self.assertEqual(text_error(self, scan, "abcdefghi"), (1, LONG_WORD))
        self.assertEqual(text_error(self, scan, "  abcdefghi"), (3, LONG_WORD))
        self.assertEqual(parts("abcdefgh i"), [("word", "abcdefgh"), ("word", "i"), ("end", "")])
        self.assertEqual(parts("abcdefgh1i"), [("word", "abcdefgh"), ("number", "1"), ("word", "i"), ("end", "")])
        self.assertEqual(scan("123456"), [("number", "123456", 1), ("end", "", 7)])
        self.assertEqual(text_error(self, scan, "1234567"), (1, LONG_NUMBER))
        self.assertEqual(text_error(self, scan, "a 0000000"), (3, LONG_NUMBER))
        self.assertEqual(text_error(self, scan, "a0000001"), (2, LONG_NUMBER))
        self.assertEqual(parts("000000"), [("number", "000000"), ("end", "")])
        self.assertEqual(parts("123456 7"), [("number", "123456"), ("number", "7"), ("end", "")])
        self.assertEqual(text_error(self, scan, "a" * 500), (1, LONG_WORD))
        self.assertEqual(text_error(self, scan, "0" * 500), (1, LONG_NUMBER))

    def test_point_112_characters_that_begin_no_token(self):
        right = set("abcdefghijklmnopqrstuvwxyz0123456789<; ")
        wrong = [chr(code) for code in range(0x250) if chr(code) not in right and chr(code) != "\n"]
        # Other blanks, letters and digits: the characters count, not what they mean elsewhere.
        wrong += ["\u2003", "\u2028", "\u0430", "\u0663", "\uff41", "\uff11", "\U0001d41a", "\u2460"]
        for sign in wrong:
            self.assertEqual(text_error(self, scan, sign), (1, NOTHING), repr(sign))
            self.assertEqual(text_error(self, scan, "ab" + sign), (3, NOTHING), repr(sign))
            self.assertEqual(text_error(self, scan, "ab 12" + sign + "3"), (6, NOTHING), repr(sign))
            self.assertEqual(text_error(self, scan, "a < " + sign), (5, NOTHING), repr(sign))

    def test_point_112_the_first_of_two_problems(self):
        self.assertEqual(text_error(self, scan, "A abcdefghi"), (1, NOTHING))
        self.assertEqual(text_error(self, scan, "abcdefghi A"), (1, LONG_WORD))
        self.assertEqual(text_error(self, scan, "abcdefghiA"), (1, LONG_WORD))
        self.assertEqual(text_error(self, scan, "1234567abcdefghi"), (1, LONG_NUMBER))
        self.assertEqual(text_error(self, scan, "abcdefghi1234567"), (1, LONG_WORD))
        self.assertEqual(text_error(self, scan, "x ? ! 1234567"), (3, NOTHING))
        self.assertEqual(text_error(self, scan, "x .. ... abcdefghi"), (8, NOTHING))
        self.assertEqual(text_error(self, scan, "a 1234567 . b"), (3, LONG_NUMBER))

    def test_point_112_texts_of_all_pieces(self):
        chance = random.Random(112)
        counted = {True: 0, False: 0}
        for _ in range(6000):
            text = "".join(chance.choice(PIECES) for _ in range(chance.randrange(1, 9)))
            told = told_tokens(text)
            counted[told.__class__ is list] += 1
            if told.__class__ is list:
                self.assertEqual(scan(text), told, repr(text))
            else:
                self.assertEqual(text_error(self, scan, text), told, repr(text))
        self.assertGreater(min(counted.values()), 1000)


class Texts(unittest.TestCase):
    def test_points_111_and_120_five_hundred_characters(self):
        for text in (" " * 500, "a " * 250, "<" * 500, "a1" * 250, (" " * 500)[:-1] + "a"):
            self.assertEqual(scan(text)[-1], ("end", "", 501))
            self.assertEqual(name_of_wrong(self, scan, text + " "), "text")
        self.assertEqual(name_of_wrong(self, scan, "A" * 501), "text")
        self.assertEqual(text_error(self, scan, "A" * 500), (1, NOTHING))

    def test_points_111_and_120_a_line_feed(self):
        for text in ("\n", "ann\n", "\nann", "a < b\n; c < d", "A\n", "a" * 9 + "\n"):
            self.assertEqual(name_of_wrong(self, scan, text), "text")
        # No other line break is a newline: it only begins no token.
        for other in ("\r", "\v", "\f", "\x1c", "\x85", "\u2028", "\u2029"):
            self.assertEqual(text_error(self, scan, "ann" + other), (4, NOTHING))

    def test_point_120_values_that_are_no_texts(self):
        for wrong in NO_TEXTS:
            self.assertEqual(name_of_wrong(self, scan, wrong), "text")

    def test_points_2_and_3_a_new_list(self):
        first = scan("ann 1")
        first.clear()
        self.assertEqual(scan("ann 1"), [("word", "ann", 1), ("number", "1", 5), ("end", "", 6)])


if __name__ == "__main__":
    unittest.main()
