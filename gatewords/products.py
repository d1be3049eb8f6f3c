"""Free and direct products of groups, and words of their letters."""

from gatewords.errors import BadWord, TooMany
from gatewords.groups import MOST_RULES, Group, want_group
from gatewords.letters import MOST_BACK, is_list, is_number_in, is_pair, is_row


def want_product(one, other):
    """BadGroup(None) unless Groups, TooMany(12) if they have too many letters together."""
    want_group(one)
    want_group(other)
    if len(one.back) + len(other.back) > MOST_BACK:
        raise TooMany(MOST_BACK)


def want_product_word(one, other, word):
    """BadWord unless a tuple of letters of the product."""
    if not is_row(len(one.back) + len(other.back), word):
        raise BadWord("not a tuple of letters of the product")


def shifted(word, many):
    """The word with each letter so many places further."""
    return tuple([letter + many for letter in word])


def product_of(one, other, further):
    """The Group of the letters and rules of both groups, and of further rules."""
    many = len(one.back)
    rules = list(one.rules)
    for left, right in other.rules:
        rules.append((shifted(left, many), shifted(right, many)))
    if len(rules) + len(further) > MOST_RULES:
        raise TooMany(MOST_RULES)
    return Group(one.back + shifted(other.back, many), rules + further)


def free_product(one, other):
    """The group of the letters and rules of both groups."""
    want_product(one, other)
    return product_of(one, other, [])


def first_letters(group):
    """The letters that stand no later than what undoes them."""
    return [letter for letter, back in enumerate(group.back) if letter <= back]


def direct_product(one, other):
    """The free product in which letters of one commute with letters of other."""
    want_product(one, other)
    many = len(one.back)
    further = []
    for left in first_letters(one):
        for right in first_letters(other):
            further.append(((right + many, left), (left, right + many)))
    return product_of(one, other, further)


def halves(one, other, word):
    """The letters of one and the letters of other, each in their sequence."""
    want_product(one, other)
    want_product_word(one, other, word)
    many = len(one.back)
    left = tuple([letter for letter in word if letter < many])
    right = tuple([letter - many for letter in word if letter >= many])
    return (left, right)


def syllables(one, other, word):
    """The stretches of letters of one side, each with its side."""
    want_product(one, other)
    want_product_word(one, other, word)
    many = len(one.back)
    found = []
    for letter in word:
        side = int(letter >= many)
        if not found or found[-1][0] != side:
            found.append((side, []))
        found[-1][1].append(letter - side * many)
    return [(side, tuple(part)) for side, part in found]


def is_syllable(one, other, thing):
    """Whether any value is a pair of a side and a tuple of letters of that side's group."""
    if not is_pair(thing) or not is_number_in(thing[0], 0, 1):
        return False
    group = other if thing[0] else one
    return is_row(len(group.back), thing[1])


def from_syllables(one, other, parts):
    """The word that such stretches make, one behind the other."""
    want_product(one, other)
    if not is_list(parts) or not all([is_syllable(one, other, part) for part in parts]):
        raise BadWord("not a list of pairs of a side and letters")
    many = len(one.back)
    word = []
    for side, part in parts:
        word.extend(shifted(part, many) if side else part)
    return tuple(word)
