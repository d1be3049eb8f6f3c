"""Subgroups told by words, and spellings by these words."""

from gatewords.errors import BadSpelling, BadSubgroup, TooMany
from gatewords.groups import MOST_SIDE, Group
from gatewords.letters import is_list, is_row, is_short_row, turned_back

MOST_GENS = 12


def are_gens(many, thing):
    """Whether any value is a list of at most 12 words of at most 40 letters."""
    if not is_list(thing) or len(thing) > MOST_GENS:
        return False
    return all([is_short_row(many, word, MOST_SIDE) for word in thing])


class Subgroup:
    """What words of a group, and what undoes them, come to one behind another."""

    def __init__(self, group, gens):
        if not isinstance(group, Group):
            raise BadSubgroup("group")
        if not are_gens(len(group.back), gens):
            raise BadSubgroup("gens")
        self.group = group
        self.gens = tuple(gens)

    def __eq__(self, other):
        return isinstance(other, Subgroup) and self.group == other.group and self.gens == other.gens


def want_subgroup(sub):
    """BadSubgroup(None) unless a Subgroup."""
    if not isinstance(sub, Subgroup):
        raise BadSubgroup(None)


def is_spelling(sub, thing):
    """Whether any value is a spelling by the words of a subgroup."""
    return is_row(2 * len(sub.gens), thing)


def want_spelling(sub, spelling):
    """BadSpelling unless a spelling."""
    if not is_spelling(sub, spelling):
        raise BadSpelling("not a spelling by these words")


def word_of_number(sub, number):
    """The word for which a number of a spelling stands."""
    word = sub.gens[number // 2]
    return turned_back(sub.group.back, word) if number & 1 else word


def spelled_told(sub, spelling):
    """The words of a spelling one behind the other."""
    letters = []
    for number in spelling:
        letters.extend(word_of_number(sub, number))
    return tuple(letters)


def spelled(sub, spelling):
    """The letters of the words of a spelling one behind the other."""
    want_subgroup(sub)
    want_spelling(sub, spelling)
    return spelled_told(sub, spelling)


def turned_spelling(spelling):
    """The numbers that undo those of a spelling, from the last to the first."""
    return tuple([number ^ 1 for number in spelling[::-1]])


def spelling_undone(sub, spelling):
    """The spelling of what undoes the word of a spelling."""
    want_subgroup(sub)
    want_spelling(sub, spelling)
    return turned_spelling(spelling)


def freed_spelling(spelling):
    """A spelling without neighbours that undo one another."""
    left = []
    for number in spelling:
        if left and left[-1] == number ^ 1:
            left.pop()
        else:
            left.append(number)
    return tuple(left)


def spelling_free(sub, spelling):
    """A spelling without neighbours that undo one another, taken out again and again."""
    want_subgroup(sub)
    want_spelling(sub, spelling)
    return freed_spelling(spelling)


def both_gens(sub, other):
    """The Subgroup of the words of two subgroups of one group."""
    want_subgroup(sub)
    want_subgroup(other)
    if sub.group != other.group:
        raise BadSubgroup("group")
    if len(sub.gens) + len(other.gens) > MOST_GENS:
        raise TooMany(MOST_GENS)
    return Subgroup(sub.group, sub.gens + other.gens)
