"""The tokens of a text of rules."""

from sheetwatch.errors import BadCharacter, BadNumber, BadQuote

KEYWORDS = (
    "event", "def", "watch", "number", "word", "implies", "or", "and", "since", "until", "not", "some", "all",
    "before", "next", "once", "held", "soon", "kept", "count", "sum", "least", "most", "of", "true", "false",
)
SIGNS = ("(", ")", "[", "]", ",", ";", ".", "*", "=", "<", "<=", "+", "-")
LETTERS = "abcdefghijklmnopqrstuvwxyzABCDEFGHIJKLMNOPQRSTUVWXYZ"
DIGITS = "0123456789"
LARGEST_NUMBER = 1000000000000
LARGEST_NUMBER_LENGTH = 13
LONGEST_TEXT = 40
PERCENT_SIGN = 37
BACKSLASH = 92


def tokens(text):
    """The list of the tokens (kind, text, row, column) of a text of rules, the end token last."""
    found = []
    lines = text.split("\n")
    # No token and no comment goes over a newline, so each row stands for itself.
    for row, line in enumerate(lines, start=1):
        found.extend(_tokens_of_row(line, row))
    found.append(("end", "", len(lines), len(lines[-1]) + 1))
    return found


def _tokens_of_row(line, row):
    found = []
    at = 0
    while at < len(line) and line[at] != "#":
        if line[at] == " ":
            at += 1
        else:
            kind, text, behind = _token_at(line, row, at)
            found.append((kind, text, row, at + 1))
            at = behind
    return found


def _token_at(line, row, at):
    """The kind and the text of the token that begins at an index of a row, and the index behind it."""
    first = line[at]
    if first == '"':
        behind = end_of_text(line, at)
        if behind is None:
            raise BadQuote(row, at + 1)
        return "text", line[at + 1:behind - 1], behind
    if first in DIGITS:
        behind = end_of_word(line, at)
        if not is_number(line[at:behind]):
            raise BadNumber(row, at + 1)
        return "number", line[at:behind], behind
    if first in LETTERS:
        behind = end_of_word(line, at)
        word = line[at:behind]
        return ("keyword" if word in KEYWORDS else "name"), word, behind
    sign = _sign_at(line, at)
    if sign is None:
        raise BadCharacter(row, at + 1)
    return "sign", sign, at + len(sign)


def _sign_at(line, at):
    """The longest sign at an index of a row, or None."""
    for length in (2, 1):
        sign = line[at:at + length]
        if sign in SIGNS:
            return sign
    return None


def end_of_word(line, at):
    """The index behind all letters, digits and _ from an index on."""
    behind = at
    while behind < len(line) and (line[behind] in LETTERS or line[behind] in DIGITS or line[behind] == "_"):
        behind += 1
    return behind


def is_number(word):
    """Whether a word that is not empty is a number of a text of rules."""
    if not all([character in DIGITS for character in word]):
        return False
    if word[0] == "0":
        return word == "0"
    # The length comes first because Python refuses to read very long numbers.
    return len(word) <= LARGEST_NUMBER_LENGTH and int(word) <= LARGEST_NUMBER


def end_of_text(line, at):
    """The index behind the text that begins with the quotation mark at an index of a row, or None."""
    first = at + 1
    second_mark = line.find('"', first, first + LONGEST_TEXT + 1)
    if second_mark < 0:
        return None
    if not all([_is_allowed(character) for character in line[first:second_mark]]):
        return None
    return second_mark + 1


def _is_allowed(character):
    """Whether a character may stand in a row of a text of rules."""
    return " " <= character <= "~" and ord(character) not in (PERCENT_SIGN, BACKSLASH)
