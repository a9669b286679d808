"""A reader that goes through the tokens of a text."""

from wholepackets.errors import TextError


class Reader:
    """Goes through a list of tokens, up to its "end" and not past it."""

    def __init__(self, tokens):
        self.tokens = tokens
        self.at = 0

    def kind(self):
        """Return the kind of the next token."""
        return self.tokens[self.at][0]

    def value(self):
        """Return the value of the next token."""
        return self.tokens[self.at][1]

    def fail(self):
        """Raise TextError with the line of the next token."""
        raise TextError(self.tokens[self.at][2])

    def skip(self, word):
        """Pass the next token if it is this word or sign, and tell if it was."""
        # No name, number or "end" has the value of a word or of a sign.
        if self.value() != word:
            return False
        self.at += 1
        return True

    def take(self, word):
        """Pass the next token, which must be this word or sign."""
        if not self.skip(word):
            self.fail()

    def take_one(self, words):
        """Pass the next token, which must be one of some words or signs, and return which."""
        word = self.value()
        if word not in words:
            self.fail()
        self.at += 1
        return word

    def take_name(self):
        """Pass the next token, which must be a name, and return it."""
        return self.take_kind("name")

    def take_number(self):
        """Pass the next token, which must be a number, and return its value."""
        return self.take_kind("number")

    def take_kind(self, kind):
        """Pass the next token, which must be of this kind, and return its value."""
        if self.kind() != kind:
            self.fail()
        value = self.value()
        self.at += 1
        return value

    def check_end(self):
        """Raise TextError if the next token is not the "end"."""
        if self.kind() != "end":
            self.fail()
