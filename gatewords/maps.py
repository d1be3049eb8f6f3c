"""Maps of a group told by rules into one told by machines."""

from gatewords.errors import BadMap, TooMany
from gatewords.groups import Group
from gatewords.leading import led_along
from gatewords.letters import is_list, is_short_row, want_word
from gatewords.steadies import Steady

MOST_IMAGE = 40


def are_images(source, target, thing):
    """Whether any value is a list of words of target, one for each letter of source."""
    if not is_list(thing) or len(thing) != len(source.back):
        return False
    return all([is_short_row(len(target.claim.group.back), word, MOST_IMAGE) for word in thing])


class Map:
    """What leads each letter of a group to a word of another one."""

    def __init__(self, source, target, images):
        if not isinstance(source, Group):
            raise BadMap("source")
        if not isinstance(target, Steady):
            raise BadMap("target")
        if not are_images(source, target, images):
            raise BadMap("images")
        self.source = source
        self.target = target
        self.images = tuple(images)

    def __eq__(self, other):
        if not isinstance(other, Map):
            return False
        return self.source == other.source and self.target == other.target and self.images == other.images


def want_map(one):
    """BadMap(None) unless a Map."""
    if not isinstance(one, Map):
        raise BadMap(None)


def images_of(one, word):
    """The images of the letters of a word, one behind the other."""
    letters = []
    for letter in word:
        letters.extend(one.images[letter])
    return tuple(letters)


def image_of(one, word):
    """The normal word of the images of the letters of a word."""
    return led_along(one.target.tables, (), images_of(one, word))


def image(one, word):
    """The normal word of the images of the letters of a word, one behind the other."""
    want_map(one)
    want_word(one.source.back, word)
    return image_of(one, word)


def broken_at(one):
    """The least letter, or the first rule, that a map does not keep, None if it keeps all."""
    for letter, back in enumerate(one.source.back):
        if image_of(one, (letter, back)) != ():
            return ("back", letter)
    for place, (left, right) in enumerate(one.source.rules):
        if image_of(one, left) != image_of(one, right):
            return ("rule", place)
    return None


def broken_map(one):
    """The least letter, or the first rule, that a map does not keep, None if it keeps all."""
    want_map(one)
    return broken_at(one)


def want_behind(one, other):
    """BadMap("source") unless other leads on from the group to which one leads."""
    if one.target.claim.group != other.source:
        raise BadMap("source")


def map_behind(one, other):
    """The Map that leads letters as one and then other does."""
    want_map(one)
    want_map(other)
    want_behind(one, other)
    words = [image_of(other, word) for word in one.images]
    if any([len(word) > MOST_IMAGE for word in words]):
        raise TooMany(MOST_IMAGE)
    return Map(one.source, other.target, words)


def leads_back(one, other):
    """Whether other leads the image in one of each letter to where the letter itself leads."""
    for letter, word in enumerate(one.images):
        if image_of(other, word) != led_along(other.target.tables, (), (letter,)):
            return False
    return True


def undo_each_other(one, other):
    """Whether each of two maps leads the images of letters in the other one back."""
    want_map(one)
    want_map(other)
    want_behind(one, other)
    want_behind(other, one)
    return leads_back(one, other) and leads_back(other, one)
