"""Backs and their letters, words, and the order of words."""

from gatewords.errors import BadBack, BadWord

MOST_BACK = 12
MOST_LETTERS = 200


def is_number(thing):
    """Whether any value is an int that is not a bool."""
    return isinstance(thing, int) and not isinstance(thing, bool)


def is_number_in(thing, least, most):
    """Whether any value is a number from least to most."""
    return is_number(thing) and least <= thing <= most


def is_list(thing):
    """Whether any value is a list or a tuple, which counts as one."""
    return isinstance(thing, (list, tuple))


def is_pair(thing):
    """Whether any value is a tuple of two things."""
    return isinstance(thing, tuple) and len(thing) == 2


def is_row(many, thing):
    """Whether any value is a tuple, of any length, of numbers from 0 on below many."""
    return isinstance(thing, tuple) and all([is_number_in(x, 0, many - 1) for x in thing])


def is_short_row(many, thing, most):
    """Whether any value is a row of at most most numbers."""
    return isinstance(thing, tuple) and len(thing) <= most and is_row(many, thing)


def is_back(thing):
    """Whether any value is a back."""
    if not isinstance(thing, tuple) or not 2 <= len(thing) <= MOST_BACK:
        return False
    if not is_row(len(thing), thing):
        return False
    return all([thing[back] == letter for letter, back in enumerate(thing)])


def want_back(back):
    """BadBack unless a back."""
    if not is_back(back):
        raise BadBack("not a back")


def is_word(back, thing):
    """Whether any value is a tuple of at most 200 letters."""
    want_back(back)
    return is_short_row(len(back), thing, MOST_LETTERS)


def want_word(back, word):
    """BadWord unless a tuple of at most 200 letters."""
    if not is_short_row(len(back), word, MOST_LETTERS):
        raise BadWord("not a word of these letters")


def want_letters(back, word):
    """BadWord unless a tuple of letters, of any length."""
    if not is_row(len(back), word):
        raise BadWord("not a tuple of these letters")


def freed(back, word):
    """The word without neighbours that undo one another, taken out again and again."""
    left = []
    for letter in word:
        if left and left[-1] == back[letter]:
            left.pop()
        else:
            left.append(letter)
    return tuple(left)


def free(back, word):
    """The free word of a word."""
    want_back(back)
    want_word(back, word)
    return freed(back, word)


def turned_back(back, word):
    """The letters that undo a word of any length, from the last to the first."""
    return tuple([back[letter] for letter in word[::-1]])


def undone(back, word):
    """What undoes a word."""
    want_back(back)
    want_word(back, word)
    return turned_back(back, word)


def rank(row):
    """What rows and words are ordered by: their length, then themselves."""
    return (len(row), row)


def least_of(words):
    """The least of a list of tuples, by their length and then as tuples."""
    return min(words, key=rank)
