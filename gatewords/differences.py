"""Differences of words, by which one follows the other."""

from gatewords.errors import BadNumber, TooMany
from gatewords.lefttrees import has_left
from gatewords.letters import is_number_in, rank, want_letters
from gatewords.loops import letter_of
from gatewords.systems import reduced_by, want_system

MOST_SHORT_WORDS = 3000
MOST_DIFFERENCES = 200
MOST_LENGTH = 8


def difference_behind(system, difference, first, second):
    """The difference behind one more letter of each word, none where it is the number of letters."""
    many = len(system.back)
    ahead = letter_of(many, first if first == many else system.back[first])
    return reduced_by(system, ahead + difference + letter_of(many, second))


def path_of(system, one, other):
    """The list of the differences of two tuples of letters."""
    many = len(system.back)
    found = [()]
    for place in range(max(len(one), len(other))):
        first = one[place] if place < len(one) else many
        second = other[place] if place < len(other) else many
        found.append(difference_behind(system, found[-1], first, second))
    return found


def difference_path(system, one, other):
    """The list of the differences of two words, () first."""
    want_system(system)
    want_letters(system.back, one)
    want_letters(system.back, other)
    return path_of(system, one, other)


def short_words(system, short):
    """All reduced words of at most short letters, in their order."""
    found = [()]
    level = [()]
    for _ in range(short):
        longer = [word + (letter,) for word in level for letter in range(len(system.back))]
        level = [word for word in longer if not has_left(system.tree, word)]
        found.extend(level)
        if len(found) > MOST_SHORT_WORDS:
            raise TooMany(MOST_SHORT_WORDS)
    return found


def want_short(short):
    """BadNumber("short") unless a length of short words."""
    if not is_number_in(short, 0, MOST_LENGTH):
        raise BadNumber("short")


def differences_up_to(system, short):
    """The differences of the reduced words of at most short letters and what letters make of them."""
    words = short_words(system, short)
    known = {}
    for word in words:
        for letter in range(len(system.back)):
            path = path_of(system, word, reduced_by(system, word + (letter,)))
            for difference in path:
                known[difference] = True
    if len(known) > MOST_DIFFERENCES:
        raise TooMany(MOST_DIFFERENCES)
    return sorted(known, key=rank)


def short_differences(system, short):
    """The list, in order, of the differences of short reduced words and what letters make of them."""
    want_system(system)
    want_short(short)
    return differences_up_to(system, short)
