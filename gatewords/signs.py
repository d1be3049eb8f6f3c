"""Texts read sign by sign, each sign being let just where some text goes on so.

A reader has the methods feed (whether a sign is let, and then it is read), lets
(whether a sign is let, nothing being read) and whole (whether this is a text).
"""

from gatewords.errors import BadText

DIGITS = "0123456789"
# All signs of texts, in Python's order of strings.
SIGNS = " (),-.0123456789;<=>ABCDEFGHIJKLMNOPQRSTUVWXYZ[]^abcdefghijklmnopqrstuvwxyz{|}"


def begins_number(digits, least, most):
    """Whether a number from least to most, without a 0 ahead, begins with these digits."""
    if least > most:
        return False
    if digits[0] == "0":
        return digits == "0" and least <= 0
    low = high = int(digits)
    while low <= most:
        if high >= least:
            return True
        low = 10 * low
        high = 10 * high + 9
    return False


def read_beginning(reader, text):
    """Let a reader read a string; BadText unless it is a beginning."""
    if not isinstance(text, str):
        raise BadText(None)
    for at, sign in enumerate(text):
        if not reader.feed(sign):
            raise BadText(at)


def read_text(reader, text):
    """Let a reader read a string; BadText unless it is a text."""
    read_beginning(reader, text)
    if not reader.whole():
        raise BadText(len(text))


def next_signs(reader, text):
    """Whether a beginning is a text, and the signs that may stand behind it."""
    read_beginning(reader, text)
    return (reader.whole(), "".join([sign for sign in SIGNS if reader.lets(sign)]))
