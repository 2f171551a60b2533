"""The tokens of a text."""

from rankswithin.checking import check
from rankswithin.errors import TextError
from rankswithin.naming import LETTERS, MOST_LETTERS

DIGITS = "0123456789"
SIGNS = ("..", "<", ";")
MOST_CHARACTERS = 500
MOST_DIGITS = 6


def is_text(value):
    """Tell whether the value is a text."""
    return isinstance(value, str) and len(value) <= MOST_CHARACTERS and "\n" not in value


def run_at(text, at, characters):
    """Return the longest part of the text, from the index on, that has only these characters."""
    end = at
    while end < len(text) and text[end] in characters:
        end = end + 1
    return text[at:end]


def sign_at(text, at):
    """Return the sign that begins at the index, or None."""
    found = [sign for sign in SIGNS if text[at:at + len(sign)] == sign]
    return found[0] if found else None


def token_at(text, at):
    """Return the token that begins at the index."""
    column = at + 1
    word, number, sign = run_at(text, at, LETTERS), run_at(text, at, DIGITS), sign_at(text, at)
    if len(word) > MOST_LETTERS:
        raise TextError(column, "a word has at most 8 letters")
    if len(number) > MOST_DIGITS:
        raise TextError(column, "a number has at most 6 digits")
    if word:
        return "word", word, column
    if number:
        return "number", number, column
    if sign is None:
        raise TextError(column, "no token begins here")
    return "sign", sign, column


def tokens_of(text):
    """Return the tokens of the text, and the end behind them."""
    tokens = []
    at = 0
    while at < len(text):
        if text[at] == " ":
            at = at + 1
        else:
            token = token_at(text, at)
            tokens.append(token)
            at = at + len(token[1])
    return tokens + [("end", "", len(text) + 1)]


def scan(text):
    """Return the tokens of the text, each with its kind and its column, and the end behind them."""
    check(is_text(text), "text")
    return tokens_of(text)
