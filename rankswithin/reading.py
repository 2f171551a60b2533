"""Problems and rankings that are read from texts, and what can come in such texts."""

from rankswithin.checking import check
from rankswithin.errors import TextError
from rankswithin.naming import are_names
from rankswithin.problems import MOST_CONSTRAINTS
from rankswithin.scanning import is_text, tokens_of

KINDS = ("problem", "ranking")
TOLD = {"word": "a word", "number": "a number", "end": "the end"}
# The grammars, place by place: what can come there, in the order in which it is told, and the place behind it.
# A text of a kind begins at the place that is called by its kind.
STEPS = {
    "problem": (("a word", "behind item"), ("the end", "behind all")),
    "behind item": (("a number", "behind low"), ('"<"', "behind ahead")),
    "behind low": (('".."', "behind dots"),),
    "behind dots": (("a number", "behind constraint"),),
    "behind ahead": (("a word", "behind constraint"),),
    "behind constraint": (('";"', "behind semicolon"), ("the end", "behind all")),
    "behind semicolon": (("a word", "behind item"),),
    "ranking": (("a word", "behind items"),),
    "behind items": (("a word", "behind items"), ("the end", "behind all")),
}


def told(token):
    """Return the words that tell what the token is."""
    kind, characters, _ = token
    return f'"{characters}"' if kind == "sign" else TOLD[kind]


def coming(place):
    """Return the words for what can come at the place of the grammar."""
    return [step[0] for step in STEPS[place]]


def listed(words):
    """Return the words one behind another, with "or" before the last one of several."""
    if len(words) == 1:
        return words[0]
    return ", ".join(words[:-1]) + " or " + words[-1]


def place_behind(kind, tokens):
    """Return the place of the grammar behind the tokens; raise TextError at the first one that cannot come."""
    place = kind
    for token in tokens:
        behind = [after for words, after in STEPS[place] if words == told(token)]
        if not behind:
            raise TextError(token[2], "expected " + listed(coming(place)))
        place = behind[0]
    return place


def followed_tokens(text, kind):
    """Return the tokens of the text, which follow the grammar, and the end."""
    tokens = tokens_of(text)
    place_behind(kind, tokens)
    return tokens


def rows_of(tokens):
    """Return the tokens of each constraint of a text that follows the grammar."""
    rows = [[]]
    for token in tokens[:-1]:
        if token[1] == ";":
            rows.append([])
        else:
            rows[-1].append(token)
    # Only a text without constraints has a row without tokens.
    return [row for row in rows if row]


def item_of(names, token):
    """Return the item with the name that the token is."""
    if token[1] not in names:
        raise TextError(token[2], "there is no such item")
    return names.index(token[1])


def place_of(names, token):
    """Return the place that the token is, of as many as there are names."""
    place = int(token[1])
    if not 1 <= place <= len(names):
        raise TextError(token[2], "there is no such place")
    return place


def ahead_by(names, first, second):
    """Return the constraint that the item of the first token is ahead of that of the second one."""
    one, other = item_of(names, first), item_of(names, second)
    if one == other:
        raise TextError(second[2], "an item is not ahead of itself")
    return "ahead", one, other


def within_by(names, first, second, third):
    """Return the constraint that the item of the first token is between the places of the others."""
    item, low, high = item_of(names, first), place_of(names, second), place_of(names, third)
    if high < low:
        raise TextError(third[2], "a window ascends")
    return "within", item, low, high


def constraint_of(names, row):
    """Return the constraint that has these tokens."""
    if len(row) == 3:
        return ahead_by(names, row[0], row[2])
    return within_by(names, row[0], row[1], row[3])


def constraints_of(names, rows):
    """Return the constraints that have the tokens of the rows."""
    constraints = ()
    for row in rows:
        if len(constraints) == MOST_CONSTRAINTS:
            raise TextError(row[0][2], "there are at most 12 constraints")
        constraints = constraints + (constraint_of(names, row),)
    return constraints


def ranking_of(names, tokens):
    """Return the ranking that has these tokens, the last of which is the end."""
    ranking = ()
    for token in tokens[:-1]:
        item = item_of(names, token)
        if item in ranking:
            raise TextError(token[2], "this item stands already")
        ranking = ranking + (item,)
    if len(ranking) < len(names):
        raise TextError(tokens[-1][2], "an item is missing")
    return ranking


def check_names(names, text):
    """Raise BadValue if the first argument is not names, or the second one not a text."""
    check(are_names(names), "names")
    check(is_text(text), "text")


def next_tokens(text, kind):
    """Return the words for what can come behind the tokens of the text, which is the beginning of one of the kind."""
    check(is_text(text), "text")
    check(isinstance(kind, str) and kind in KINDS, "kind")
    # The end of the text is none of its tokens: more can come there.
    return coming(place_behind(kind, tokens_of(text)[:-1]))


def read_problem(names, text):
    """Return the problem that the text tells of."""
    check_names(names, text)
    return len(names), constraints_of(names, rows_of(followed_tokens(text, "problem")))


def read_ranking(names, text):
    """Return the ranking that the text tells of."""
    check_names(names, text)
    return ranking_of(names, followed_tokens(text, "ranking"))
