"""Points 112 to 117, 120 and 121: what can come in a text, and problems and rankings that are read."""

import unittest
from itertools import product

from rankswithin.reading import listed, next_tokens, read_problem, read_ranking
from support import (
    DEEP_LIST, DEEP_TUPLE, NO_NAMES, NO_TEXTS, ODD_VALUES, all_rankings, every_constraint, name_of_wrong, text_error,
)

NAMES = ("ann", "bob", "cid")
SEVEN = ("a", "b", "c", "d", "e", "f", "g")
CHARACTERS = {"W": "a", "N": "1", "D": "..", "L": "<", "S": ";"}
# What a token is called, in the order of point 114.
CALLED = {"W": "a word", "N": "a number", "D": '".."', "L": '"<"', "S": '";"', "E": "the end"}
NO_ITEM = "there is no such item"
NO_PLACE = "there is no such place"
TURNED = "a window ascends"
ITSELF = "an item is not ahead of itself"
TOO_MANY = "there are at most 12 constraints"
TWICE = "this item stands already"
MISSING = "an item is missing"


def written_out(kind):
    """Texts of the grammar, by the kinds of their tokens, with up to four constraints or 15 items (point 113)."""
    if kind == "ranking":
        return ["W" * many + "E" for many in range(1, 16)]
    texts = ["E"]
    for many in range(1, 5):
        texts += ["S".join(rows) + "E" for rows in product(("WNDN", "WLW"), repeat=many)]
    return texts


ALL_TEXTS = {kind: written_out(kind) for kind in ("problem", "ranking")}


def followers(kind, tokens):
    """What can come behind the tokens, in the order of point 114."""
    begun = {text[len(tokens)] for text in ALL_TEXTS[kind] if text.startswith(tokens) and len(text) > len(tokens)}
    return [CALLED[token] for token in CALLED if token in begun]


def expecting(words):
    """The words of the problem where something else stands."""
    return "expected " + (words[0] if len(words) == 1 else ", ".join(words[:-1]) + " or " + words[-1])


def first_wrong(kind, tokens):
    """The index of the first token that cannot come, or None."""
    for at in range(len(tokens)):
        if CALLED[tokens[at]] not in followers(kind, tokens[:at]):
            return at
    return None


def sequences(most):
    """All sequences of tokens, up to so many."""
    return ["".join(one) for many in range(most + 1) for one in product("WNDLS", repeat=many)]


def with_blanks(tokens):
    """A text with these tokens, a blank behind each one, and the columns of them and of the end."""
    text, columns = "", []
    for token in tokens:
        columns.append(len(text) + 1)
        text += CHARACTERS[token] + " "
    return text, columns + [len(text) + 1]


class NextTokens(unittest.TestCase):
    def test_points_113_and_114_behind_all_sequences_of_tokens(self):
        let = 0
        for kind in ("problem", "ranking"):
            for tokens in sequences(5) + [text[:size] for text in ALL_TEXTS[kind] for size in range(6, 12)]:
                tokens = tokens.replace("E", "")
                text, columns = with_blanks(tokens)
                at = first_wrong(kind, tokens)
                if at is None:
                    found = next_tokens(text, kind)
                    self.assertIs(found.__class__, list)
                    self.assertEqual(found, followers(kind, tokens), (text, kind))
                    let += 1
                else:
                    words = expecting(followers(kind, tokens[:at]))
                    self.assertEqual(text_error(self, next_tokens, text, kind), (columns[at], words), (text, kind))
        self.assertGreater(let, 30)

    def test_point_114_behind_each_token(self):
        for text, found in (
            ("", ["a word", "the end"]), ("ann", ["a number", '"<"']), ("ann 1", ['".."']), ("ann 1..", ["a number"]),
            ("ann 1..2", ['";"', "the end"]), ("ann <", ["a word"]), ("ann < bob", ['";"', "the end"]),
            ("ann < bob;", ["a word"]), ("ann < bob; cid", ["a number", '"<"']), ("   ", ["a word", "the end"]),
        ):
            self.assertEqual(next_tokens(text, "problem"), found)
            self.assertEqual(next_tokens("x3..2;" + text, "problem") == found, text.strip() != "")
        self.assertEqual(next_tokens("x3..2;", "problem"), ["a word"])
        for text, found in (("", ["a word"]), (" ", ["a word"]), ("ann", ["a word", "the end"])):
            self.assertEqual(next_tokens(text, "ranking"), found)
        self.assertEqual(next_tokens("ann bob ann " * 20, "ranking"), ["a word", "the end"])

    def test_point_114_words_of_the_problem(self):
        for text, problem in (
            ("1", (1, "expected a word or the end")), (" <", (2, "expected a word or the end")),
            ("ann bob", (5, 'expected a number or "<"')), ("ann ..", (5, 'expected a number or "<"')),
            ("ann;", (4, 'expected a number or "<"')), ("ann 1 2", (7, 'expected ".."')),
            ("ann1<", (5, 'expected ".."')), (";", (1, "expected a word or the end")),
            ("ann 1..bob", (8, "expected a number")), ("ann < 1", (7, "expected a word")),
            ("ann < <", (7, "expected a word")), ("ann 1..2 bob", (10, 'expected ";" or the end')),
            ("a<b<c", (4, 'expected ";" or the end')), ("a<b;;", (5, "expected a word")),
        ):
            self.assertEqual(text_error(self, next_tokens, text, "problem"), problem)
            self.assertEqual(text_error(self, next_tokens, text + " < .. 1", "problem"), problem)
        for text, problem in (
            ("1", (1, "expected a word")), ("..", (1, "expected a word")), ("ann 1", (5, "expected a word or the end")),
            ("ann; bob", (4, "expected a word or the end")), ("ann bob < cid", (9, "expected a word or the end")),
        ):
            self.assertEqual(text_error(self, next_tokens, text, "ranking"), problem)

    def test_point_114_one_two_and_three_words(self):
        self.assertEqual(listed(["a word"]), "a word")
        self.assertEqual(listed(["a word", "the end"]), "a word or the end")
        self.assertEqual(listed(["a word", '"<"', "the end"]), 'a word, "<" or the end')

    def test_point_112_tokens_come_first(self):
        for kind in ("problem", "ranking"):
            self.assertEqual(text_error(self, next_tokens, "< 1 A", kind), (5, "no token begins here"))
            self.assertEqual(text_error(self, next_tokens, "1 abcdefghi", kind), (3, "a word has at most 8 letters"))
            self.assertEqual(text_error(self, next_tokens, "; 1234567 .", kind), (3, "a number has at most 6 digits"))
            self.assertEqual(text_error(self, next_tokens, "ann .", kind), (5, "no token begins here"))

    def test_points_116_and_117_are_not_asked(self):
        self.assertEqual(next_tokens("a 9..0; b < b; c 000000..999999", "problem"), ['";"', "the end"])
        self.assertEqual(next_tokens("a<b;" * 13, "problem"), ["a word"])
        self.assertEqual(next_tokens("ann ann ann", "ranking"), ["a word", "the end"])

    def test_the_examples(self):
        self.assertEqual(next_tokens("ann 1..", "problem"), ["a number"])

    def test_point_120_text_and_kind(self):
        kinds = [value for value in ODD_VALUES if value != "ranking"]
        kinds += ["Problem", "problems", "rankin", "", " ranking", ["problem"], ("problem",), b"problem", None]
        for wrong in NO_TEXTS:
            for kind in ("problem", "ranking", None, "x"):
                self.assertEqual(name_of_wrong(self, next_tokens, wrong, kind), "text")
        for wrong in kinds + [DEEP_TUPLE, DEEP_LIST]:
            for text in ("", "ann", "A", "< <", "a" * 9):
                self.assertEqual(name_of_wrong(self, next_tokens, text, wrong), "kind")

    def test_point_111_five_hundred_characters(self):
        self.assertEqual(next_tokens("a " * 250, "ranking"), ["a word", "the end"])
        self.assertEqual(name_of_wrong(self, next_tokens, "a " * 250 + " ", "ranking"), "text")

    def test_points_2_and_3_a_new_list(self):
        for _ in range(2):
            found = next_tokens("ann", "problem")
            self.assertEqual(found, ["a number", '"<"'])
            found.append("a word")
            found[0] = None


class ReadProblem(unittest.TestCase):
    def test_point_115_constraints(self):
        self.assertEqual(read_problem(NAMES, "ann 1..2; cid < bob"), (3, (("within", 0, 1, 2), ("ahead", 2, 1))))
        self.assertEqual(read_problem(NAMES, "bob 2..2"), (3, (("within", 1, 2, 2),)))
        self.assertEqual(read_problem(NAMES, ""), (3, ()))
        self.assertEqual(read_problem(("a",), "  "), (1, ()))
        self.assertEqual(read_problem(("a",), "a1..1"), (1, (("within", 0, 1, 1),)))
        self.assertEqual(read_problem(SEVEN, "g 7..7;a<g"), (7, (("within", 6, 7, 7), ("ahead", 0, 6))))

    def test_point_115_all_constraints(self):
        for items in range(1, 8):
            for one in every_constraint(items):
                if one[0] == "within":
                    texts = [f"{SEVEN[one[1]]} {one[2]}..{one[3]}", f"{SEVEN[one[1]]}{one[2]:06}..00{one[3]}"]
                else:
                    texts = [f"{SEVEN[one[1]]} < {SEVEN[one[2]]}", f"{SEVEN[one[1]]}<{SEVEN[one[2]]}"]
                for text in texts:
                    self.assertEqual(read_problem(SEVEN[:items], text), (items, (one,)))

    def test_point_115_zeros_ahead(self):
        self.assertEqual(read_problem(NAMES, "ann 01..000002"), (3, (("within", 0, 1, 2),)))
        self.assertEqual(read_problem(NAMES, "ann 000003..03"), (3, (("within", 0, 3, 3),)))

    def test_point_113_the_grammar(self):
        tested = 0
        for tokens in sequences(5) + [text[:size] for text in ALL_TEXTS["problem"] for size in range(6, 14)]:
            tokens = tokens.replace("E", "")
            text, columns = with_blanks(tokens)
            at = first_wrong("problem", tokens + "E")
            if at is not None:
                words = expecting(followers("problem", tokens[:at]))
                self.assertEqual(text_error(self, read_problem, ("a",), text), (columns[at], words), text)
                tested += at == len(tokens)
        self.assertGreater(tested, 30)

    def test_point_114_at_the_end(self):
        for text, problem in (
            ("ann", (4, 'expected a number or "<"')), ("ann  ", (6, 'expected a number or "<"')),
            ("ann 1", (6, 'expected ".."')), ("ann 1..", (8, "expected a number")), ("ann <", (6, "expected a word")),
            ("ann < bob;", (11, "expected a word")), ("ann < bob; ", (12, "expected a word")),
            ("ann < bob; cid", (15, 'expected a number or "<"')), ("a<b;", (5, "expected a word")),
        ):
            self.assertEqual(text_error(self, read_problem, NAMES, text), problem)

    def test_points_112_and_114_before_all_others(self):
        # First what tokens there are, then the grammar, and then what point 116 names.
        self.assertEqual(text_error(self, read_problem, NAMES, "dan < <; A"), (10, "no token begins here"))
        self.assertEqual(text_error(self, read_problem, NAMES, "dan 9..0; ann ann"), (15, 'expected a number or "<"'))
        self.assertEqual(text_error(self, read_problem, NAMES, "ann < ann; bob"), (15, 'expected a number or "<"'))
        self.assertEqual(text_error(self, read_problem, NAMES, "dan 1..2 abcdefghi"),
                         (10, "a word has at most 8 letters"))
        self.assertEqual(text_error(self, read_problem, NAMES, "ann 2..1;"), (10, "expected a word"))
        self.assertEqual(text_error(self, read_problem, ("a",), "a1..1;" * 13), (79, "expected a word"))
        self.assertEqual(text_error(self, read_problem, ("a",), "a1..1;" * 13 + "A"), (79, "no token begins here"))

    def test_point_116_no_such_item(self):
        self.assertEqual(text_error(self, read_problem, NAMES, "dan 1..2"), (1, NO_ITEM))
        self.assertEqual(text_error(self, read_problem, NAMES, "  dan < ann"), (3, NO_ITEM))
        self.assertEqual(text_error(self, read_problem, NAMES, "ann < dan"), (7, NO_ITEM))
        self.assertEqual(text_error(self, read_problem, NAMES, "ann < bob; an < cid"), (12, NO_ITEM))
        self.assertEqual(text_error(self, read_problem, NAMES, "annn < cid"), (1, NO_ITEM))
        self.assertEqual(text_error(self, read_problem, NAMES, "dan < dan"), (1, NO_ITEM))

    def test_point_116_no_such_place(self):
        for number in ("0", "00", "000000", "4", "04", "10", "999999", "000004"):
            self.assertEqual(text_error(self, read_problem, NAMES, f"ann {number}..3"), (5, NO_PLACE))
            self.assertEqual(text_error(self, read_problem, NAMES, f"ann 3..{number}"), (8, NO_PLACE))
            self.assertEqual(text_error(self, read_problem, NAMES, f"ann 1..{number}"), (8, NO_PLACE))
        self.assertEqual(text_error(self, read_problem, ("a",), "a 1..2"), (6, NO_PLACE))
        self.assertEqual(text_error(self, read_problem, ("a",), "a 2..2"), (3, NO_PLACE))
        self.assertEqual(text_error(self, read_problem, SEVEN, "a 7..8"), (6, NO_PLACE))

    def test_point_116_a_window_ascends(self):
        self.assertEqual(text_error(self, read_problem, ("ann", "bob"), "ann 2..1"), (8, TURNED))
        self.assertEqual(text_error(self, read_problem, NAMES, "ann 1..3; bob 3 .. 002"), (20, TURNED))
        for items in range(1, 8):
            for low, high in product(range(1, items + 1), repeat=2):
                text = f"a {low}..{high}"
                if low <= high:
                    self.assertEqual(read_problem(SEVEN[:items], text), (items, (("within", 0, low, high),)))
                else:
                    self.assertEqual(text_error(self, read_problem, SEVEN[:items], text), (6, TURNED))

    def test_point_116_an_item_is_not_ahead_of_itself(self):
        for name in NAMES:
            self.assertEqual(text_error(self, read_problem, NAMES, f"{name} < {name}"), (7, ITSELF))
            self.assertEqual(text_error(self, read_problem, NAMES, f"ann < cid;{name}<{name}"), (15, ITSELF))

    def test_point_116_two_problems_in_one_constraint(self):
        self.assertEqual(text_error(self, read_problem, NAMES, "dan 0..1"), (1, NO_ITEM))
        self.assertEqual(text_error(self, read_problem, NAMES, "dan 2..1"), (1, NO_ITEM))
        # The low place is not there, and the high one is less.
        self.assertEqual(text_error(self, read_problem, NAMES, "ann 5..2"), (5, NO_PLACE))
        self.assertEqual(text_error(self, read_problem, NAMES, "ann 4..5"), (5, NO_PLACE))
        # The high place is not there, and less than the low one.
        self.assertEqual(text_error(self, read_problem, NAMES, "ann 2..0"), (8, NO_PLACE))
        self.assertEqual(text_error(self, read_problem, NAMES, "ann 0..0"), (5, NO_PLACE))

    def test_point_116_two_problems_in_one_text(self):
        parts = {
            "dan 1..2": (1, NO_ITEM), "ann 0..2": (5, NO_PLACE), "ann 2..7": (8, NO_PLACE), "ann 3..1": (8, TURNED),
            "cid < cid": (7, ITSELF), "cid < dan": (7, NO_ITEM),
        }
        for one, (column, words) in parts.items():
            for other in parts:
                self.assertEqual(text_error(self, read_problem, NAMES, f"{one}; {other}"), (column, words))
                text = f"bob 1..3; {one}; {other}"
                self.assertEqual(text_error(self, read_problem, NAMES, text), (column + 10, words))

    def test_point_116_twelve_constraints_and_thirteen(self):
        twelve = "; ".join(["ann 1..2", "cid < bob"] * 6)
        self.assertEqual(read_problem(NAMES, twelve), (3, (("within", 0, 1, 2), ("ahead", 2, 1)) * 6))
        column = len(twelve) + 3
        for last in ("ann 1..2", "cid < bob", "dan 1..2", "dan < dan", "ann 9..0", "ann 3..1", "cid < cid"):
            self.assertEqual(text_error(self, read_problem, NAMES, f"{twelve}; {last}"), (column, TOO_MANY))
            self.assertEqual(text_error(self, read_problem, NAMES, f"{twelve}; {last}; {last}"), (column, TOO_MANY))
        # What stands before the thirteenth one is reported first.
        self.assertEqual(text_error(self, read_problem, NAMES, f"ann 3..1; {twelve}"), (8, TURNED))
        self.assertEqual(text_error(self, read_problem, NAMES, f"{twelve[:-3]}dan; ann 1..2"), (column - 5, NO_ITEM))
        self.assertEqual(text_error(self, read_problem, ("a",), "a1..1;" * 12 + "a1..1"), (73, TOO_MANY))

    def test_points_119_and_121_blanks(self):
        problem = (3, (("within", 0, 1, 2), ("ahead", 2, 1)))
        for text in ("ann1..2;cid<bob", "  ann 1 .. 2 ; cid < bob  ", "ann   1..2;   cid<bob"):
            self.assertEqual(read_problem(NAMES, text), problem)
        self.assertEqual(text_error(self, read_problem, NAMES, "an n 1..2"), (4, 'expected a number or "<"'))
        self.assertEqual(text_error(self, read_problem, NAMES, "ann 1. .2"), (6, "no token begins here"))
        self.assertEqual(text_error(self, read_problem, NAMES, "ann 1..0 2"), (10, 'expected ";" or the end'))


class ReadRanking(unittest.TestCase):
    def test_point_115_from_the_first_place_on(self):
        self.assertEqual(read_ranking(NAMES, "bob ann cid"), (1, 0, 2))
        self.assertEqual(read_ranking(("a",), "a"), (0,))
        for items in range(1, 5):
            for ranking in all_rankings(items):
                text = " ".join(SEVEN[item] for item in ranking)
                self.assertEqual(read_ranking(SEVEN[:items], text), ranking)
                self.assertEqual(read_ranking(SEVEN[:items], "  " + text.replace(" ", "   ") + " "), ranking)
        self.assertEqual(read_ranking(SEVEN, "g f e d c b a"), (6, 5, 4, 3, 2, 1, 0))

    def test_point_113_the_grammar(self):
        for tokens in sequences(4) + ["W" * many for many in range(5, 9)]:
            text, columns = with_blanks(tokens)
            at = first_wrong("ranking", tokens + "E")
            if at is not None:
                words = expecting(followers("ranking", tokens[:at]))
                self.assertEqual(text_error(self, read_ranking, ("a",), text), (columns[at], words), text)
        self.assertEqual(text_error(self, read_ranking, NAMES, ""), (1, "expected a word"))
        self.assertEqual(text_error(self, read_ranking, NAMES, "   "), (4, "expected a word"))

    def test_points_112_and_114_before_all_others(self):
        self.assertEqual(text_error(self, read_ranking, NAMES, "dan ann ann 1 A"), (15, "no token begins here"))
        self.assertEqual(text_error(self, read_ranking, NAMES, "dan ann ann 1"), (13, "expected a word or the end"))
        self.assertEqual(text_error(self, read_ranking, NAMES, "ann ann;"), (8, "expected a word or the end"))
        self.assertEqual(text_error(self, read_ranking, NAMES, "ann ann < bob"), (9, "expected a word or the end"))

    def test_point_117_each_problem(self):
        self.assertEqual(text_error(self, read_ranking, NAMES, "dan"), (1, NO_ITEM))
        self.assertEqual(text_error(self, read_ranking, NAMES, "ann bob dan"), (9, NO_ITEM))
        self.assertEqual(text_error(self, read_ranking, NAMES, "ann bob cid dan"), (13, NO_ITEM))
        self.assertEqual(text_error(self, read_ranking, NAMES, "ann bob ann"), (9, TWICE))
        self.assertEqual(text_error(self, read_ranking, NAMES, "ann bob cid bob"), (13, TWICE))
        self.assertEqual(text_error(self, read_ranking, NAMES, " ann  ann"), (7, TWICE))
        self.assertEqual(text_error(self, read_ranking, NAMES, "ann bob"), (8, MISSING))
        self.assertEqual(text_error(self, read_ranking, NAMES, "ann bob   "), (11, MISSING))
        self.assertEqual(text_error(self, read_ranking, SEVEN, "g"), (2, MISSING))
        self.assertEqual(text_error(self, read_ranking, SEVEN, "a b c d e f"), (12, MISSING))

    def test_point_117_two_problems_in_one_text(self):
        self.assertEqual(text_error(self, read_ranking, NAMES, "dan dan"), (1, NO_ITEM))
        self.assertEqual(text_error(self, read_ranking, NAMES, "ann ann dan"), (5, TWICE))
        self.assertEqual(text_error(self, read_ranking, NAMES, "ann dan ann"), (5, NO_ITEM))
        self.assertEqual(text_error(self, read_ranking, NAMES, "ann ann"), (5, TWICE))
        self.assertEqual(text_error(self, read_ranking, NAMES, "ann dan"), (5, NO_ITEM))
        self.assertEqual(text_error(self, read_ranking, ("a",), "a a a"), (3, TWICE))


class WrongArguments(unittest.TestCase):
    def test_point_120_names(self):
        for function in (read_problem, read_ranking):
            for wrong in NO_NAMES:
                for text in ("", "ann", "A", "\n", None, "a" * 501):
                    self.assertEqual(name_of_wrong(self, function, wrong, text), "names")

    def test_point_120_text(self):
        for function in (read_problem, read_ranking):
            for wrong in NO_TEXTS:
                for names in (NAMES, ("a",), SEVEN):
                    self.assertEqual(name_of_wrong(self, function, names, wrong), "text")

    def test_point_111_five_hundred_characters(self):
        self.assertEqual(read_problem(NAMES, "ann < bob" + " " * 491), (3, (("ahead", 0, 1),)))
        self.assertEqual(name_of_wrong(self, read_problem, NAMES, "ann < bob" + " " * 492), "text")
        self.assertEqual(read_ranking(("a",), " " * 499 + "a"), (0,))
        self.assertEqual(name_of_wrong(self, read_ranking, ("a",), " " * 500 + "a"), "text")
        self.assertEqual(text_error(self, read_ranking, ("a", "b"), " " * 499 + "a"), (501, MISSING))


class TheSameAgain(unittest.TestCase):
    def test_point_2_results_are_equal(self):
        for _ in range(2):
            self.assertEqual(read_problem(NAMES, "ann<bob"), (3, (("ahead", 0, 1),)))
            self.assertEqual(read_ranking(NAMES, "cid bob ann"), (2, 1, 0))
            self.assertEqual(text_error(self, read_ranking, NAMES, "cid bob"), (8, MISSING))


if __name__ == "__main__":
    unittest.main()
