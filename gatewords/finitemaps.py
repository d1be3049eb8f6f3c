"""All maps of a group into a finite one."""

from gatewords.errors import TooMany
from gatewords.groups import want_group
from gatewords.tables import few_points, products

MOST_MAPPED = 20000


def place_of_images(rows, images, word):
    """The place to which the images of the letters of a word, one behind the other, lead ()."""
    place = 0
    for letter in word:
        place = rows[place][images[letter]]
    return place


def rules_by_last(group):
    """For each letter the rules of which all letters have images as soon as this one has.

    An image is chosen for a letter and what undoes it at once, so that the
    lesser one of both counts.
    """
    found = [[] for _ in group.back]
    for one, other in group.rules:
        firsts = [min(letter, group.back[letter]) for letter in one + other]
        found[max(firsts + [0])].append((one, other))
    return found


def keeps(rows, images, rules):
    """Whether the sides of each of some rules have the same image."""
    return all([place_of_images(rows, images, one) == place_of_images(rows, images, other) for one, other in rules])


def images_further(rows, group, rules, tuples, letter):
    """The tuples of images, each with one for a further letter and what undoes it, that keep its rules."""
    undoing = group.back[letter]
    found = []
    for images in tuples:
        for place, row in enumerate(rows):
            if undoing == letter and row[place] != 0:
                continue
            longer = {**images, letter: place, undoing: row.index(0)}
            if keeps(rows, longer, rules):
                found.append(longer)
    return found


def all_maps(group, steady):
    """The ascending list of the tuples of places of images of the letters."""
    want_group(group)
    points = few_points(steady)
    firsts = [letter for letter, undoing in enumerate(group.back) if letter <= undoing]
    many = 1
    for _ in firsts:
        many = many * len(points[0])
    if many > MOST_MAPPED:
        raise TooMany(MOST_MAPPED)
    rows = products(points)
    rules = rules_by_last(group)
    tuples = [{}]
    for letter in firsts:
        tuples = images_further(rows, group, rules[letter], tuples, letter)
    return sorted([tuple([images[letter] for letter in range(len(group.back))]) for images in tuples])


def maps_into(group, steady):
    """The ascending list of the tuples of places of normal words by which a map is not broken."""
    return all_maps(group, steady)


def count_into(group, steady):
    """How many maps of a group into that of a Steady are not broken."""
    return len(all_maps(group, steady))
