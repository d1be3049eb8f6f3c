"""Pair rows, which read two words side by side."""

from gatewords.errors import BadWord
from gatewords.letters import is_row, want_back, want_letters


def row_of_pair(many, one, other):
    """The pair row of two words, of so many letters."""
    row = []
    for place in range(max(len(one), len(other))):
        first = one[place] if place < len(one) else many
        second = other[place] if place < len(other) else many
        row.append(first * (many + 1) + second)
    return tuple(row)


def pair_row(back, one, other):
    """The pair row of two words of any length."""
    want_back(back)
    want_letters(back, one)
    want_letters(back, other)
    return row_of_pair(len(back), one, other)


def pair_of_row(many, row):
    """The two words that numbers tell, whether they are their pair row or not."""
    one = tuple([number // (many + 1) for number in row if number // (many + 1) < many])
    other = tuple([number % (many + 1) for number in row if number % (many + 1) < many])
    return (one, other)


def is_row_of_pair(many, thing):
    """Whether any value is the pair row of two words, of so many letters."""
    if not is_row((many + 1) ** 2, thing):
        return False
    # Letters behind an ended word, or no letters at all, are lost in the way back.
    one, other = pair_of_row(many, thing)
    return row_of_pair(many, one, other) == thing


def words_of(back, row):
    """The pair of the words of which this is the pair row."""
    want_back(back)
    if not is_row_of_pair(len(back), row):
        raise BadWord("not the pair row of two words")
    return pair_of_row(len(back), row)


def is_pair_row(back, thing):
    """Whether any value is the pair row of two words."""
    want_back(back)
    return is_row_of_pair(len(back), thing)
