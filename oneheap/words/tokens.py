"""Texts as tokens, from left to right."""

from oneheap.errors import Fault

CAPITALS = "ABCDEFGHIJKLMNOPQRSTUVWXYZ"
LETTERS = "abcdefghijklmnopqrstuvwxyzABCDEFGHIJKLMNOPQRSTUVWXYZ"
DIGITS = "0123456789"
WORD_SIGNS = "abcdefghijklmnopqrstuvwxyzABCDEFGHIJKLMNOPQRSTUVWXYZ0123456789_"
QUOTE = '"'
BACKSLASH = "\\"
PERCENT_CODE = 37
LONGEST_WORD = 12
LONGEST_NUMBER = 18


class Token:
    """A word, a number, a quoted text, a sign, or the end."""

    def __init__(self, role, text, place):
        self.role = role
        self.text = text
        self.place = place


def tokens(text, signs, longest):
    """Return the tokens of a text; the last one is the end."""
    if len(text) > longest:
        raise Fault(0, "text too long")
    found = []
    at = behind_blanks(text, 0)
    while at < len(text):
        token, at = token_at(text, at, signs)
        found.append(token)
        at = behind_blanks(text, at)
    found.append(Token("end", "", len(text)))
    return found


def quoted(text):
    """Return a text as a quoted text."""
    inner = text.replace(BACKSLASH, BACKSLASH + BACKSLASH).replace(QUOTE, BACKSLASH + QUOTE)
    return QUOTE + inner + QUOTE


def behind_blanks(text, at):
    """Return the first place from `at` on where no blank stands."""
    while at < len(text) and text[at] == " ":
        at += 1
    return at


def token_at(text, at, signs):
    """Return the token that begins at a place, and the place behind it."""
    first = text[at]
    if first in LETTERS:
        return word_at(text, at)
    if first in DIGITS:
        return number_at(text, at)
    if first == QUOTE:
        return quoted_at(text, at)
    return sign_at(text, at, signs)


def behind_run(text, at, allowed):
    """Return the place behind the allowed characters that stand from `at` on."""
    while at < len(text) and text[at] in allowed:
        at += 1
    return at


def word_at(text, at):
    """Return the word at a place, and the place behind it."""
    behind = behind_run(text, at, WORD_SIGNS)
    if behind - at > LONGEST_WORD:
        raise Fault(at, "word too long")
    return Token("word", text[at:behind], at), behind


def number_at(text, at):
    """Return the number at a place, and the place behind it."""
    behind = behind_run(text, at, DIGITS)
    if text[at] == "0" and behind - at > 1:
        raise Fault(at, "needless zero")
    if behind - at > LONGEST_NUMBER:
        raise Fault(at, "number too long")
    if behind_run(text, behind, WORD_SIGNS) > behind:
        raise Fault(behind, "unexpected sign")
    return Token("number", text[at:behind], at), behind


def quoted_at(text, start):
    """Return the quoted text at a place, and the place behind it."""
    inner = []
    at = start + 1
    while at < len(text) and text[at] != QUOTE:
        escaped = text[at] == BACKSLASH
        if escaped:
            at += 1
        if at < len(text):
            if not may_stand(text[at], escaped):
                raise Fault(at, "unexpected sign")
            inner.append(text[at])
            at += 1
    if at == len(text):
        raise Fault(start, "text is not closed")
    return Token("text", "".join(inner), start), at + 1


def may_stand(character, escaped):
    """Return whether a character may stand in a quoted text, behind a backslash or not."""
    if escaped:
        return character == QUOTE or character == BACKSLASH
    return " " <= character <= "~" and ord(character) != PERCENT_CODE


def sign_at(text, at, signs):
    """Return the longest sign at a place, and the place behind it."""
    longest = ""
    for sign in signs:
        if len(sign) > len(longest) and text[at:at + len(sign)] == sign:
            longest = sign
    if longest == "":
        raise Fault(at, "unexpected sign")
    return Token("sign", longest, at), at + len(longest)
