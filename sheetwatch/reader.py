"""Going through the tokens of a text of rules."""

from sheetwatch.errors import Unexpected
from sheetwatch.tokens import tokens


class Reader:
    """Goes through the tokens of a text from left to right."""

    def __init__(self, text):
        self.found = tokens(text)
        self.at = 0

    def kind(self):
        """The kind of the next token."""
        return self.found[self.at][0]

    def word(self, ahead=0):
        """The keyword or sign so many places ahead of the next token, or None if that is no such token."""
        kind, text = self.found[self.at + ahead][:2]
        # A text in quotation marks may look like a keyword or a sign.
        return text if kind in ("keyword", "sign") else None

    def step(self):
        """Goes behind the next token and returns its text."""
        text = self.found[self.at][1]
        self.at += 1
        return text

    def take(self, word):
        """Goes behind this keyword or sign, which must stand here."""
        self.take_one_of((word,))

    def take_one_of(self, words):
        """Goes behind one of these keywords and signs, and returns it."""
        if self.word() not in words:
            self.refuse()
        return self.step()

    def take_kind(self, kind):
        """Goes behind a token of this kind, and returns its text."""
        if self.kind() != kind:
            self.refuse()
        return self.step()

    def refuse(self):
        """Tells that the next token is not allowed at its place."""
        row, column = self.found[self.at][2:]
        raise Unexpected(row, column)
