"""What every grammar asks of the tokens of a text."""

from oneheap.errors import Fault
from oneheap.words.tokens import CAPITALS

RESERVED = (
    "kind", "key", "not", "null", "int", "text", "without", "one", "of", "ref", "or", "list",
    "clears", "refuses", "takes", "rename", "new", "gone", "change", "else", "back", "replace",
    "by", "as", "table", "split", "join", "into", "needs", "drops", "deletes",
)


class TokenReader:
    """Goes through the tokens of a text from left to right."""

    def __init__(self, row, reserved):
        self.row = list(row)
        self.reserved = reserved
        self.at = 0

    def here(self):
        """Return the token that stands here."""
        return self.row[self.at]

    def following(self):
        """Return the token behind the one that stands here; behind the end, the end."""
        return self.here() if self.at_end() else self.row[self.at + 1]

    def take(self):
        """Return the token that stands here, and go on, but never behind the end."""
        token = self.here()
        if not self.at_end():
            self.at += 1
        return token

    def at_end(self):
        """Return whether the end stands here."""
        return self.here().role == "end"

    def stands(self, text):
        """Return whether a certain word or sign stands here."""
        return is_certain(self.here(), text)

    def stands_one(self, texts):
        """Return whether one of some words and signs stands here."""
        return any([self.stands(text) for text in texts])

    def passes(self, text):
        """Return whether a certain word or sign stands here, and go on if it does."""
        if not self.stands(text):
            return False
        self.take()
        return True

    def must(self, text):
        """Take a certain word or sign."""
        if not self.stands(text):
            raise Fault(self.here().place, f"expected {text}")
        return self.take()

    def must_end(self):
        """Refuse everything but the end."""
        if not self.at_end():
            raise Fault(self.here().place, "expected the end")

    def must_role(self, role, reason):
        """Take a token of a role."""
        if self.here().role != role:
            raise Fault(self.here().place, reason)
        return self.take()

    def number_token(self):
        """Take a number."""
        return self.must_role("number", "expected a number")

    def text_token(self):
        """Take a quoted text."""
        return self.must_role("text", "expected a text")

    def integer(self):
        """Take an integer, and return its amount."""
        below_zero = self.passes("-")
        amount = int(self.number_token().text)
        return -amount if below_zero else amount

    def is_name(self, token, capital):
        """Return whether a token is a name, with a capital first letter or not."""
        if token.role != "word" or token.text in self.reserved:
            return False
        return (token.text[0] in CAPITALS) == capital

    def small_name_stands(self):
        """Return whether a name with a small first letter stands here."""
        return self.is_name(self.here(), False)

    def small_name_follows(self):
        """Return whether a name with a small first letter stands behind the token that stands here."""
        return self.is_name(self.following(), False)

    def kind_name(self):
        """Take the name of a kind."""
        if not self.is_name(self.here(), True):
            raise Fault(self.here().place, "expected a kind")
        return self.take()

    def small_name(self, reason):
        """Take a name with a small first letter."""
        if not self.small_name_stands():
            raise Fault(self.here().place, reason)
        return self.take()

    def field_name(self):
        """Take the name of a field."""
        return self.small_name("expected a field")


def is_certain(token, text):
    """Return whether a token is a certain word or sign."""
    return (token.role == "word" or token.role == "sign") and token.text == text
