"""Equations whose unknown stands once on either side, and the words that conjugate."""

from gatewords.alongs import along_shape
from gatewords.chains import chain_shape, link_of, links_of_nears
from gatewords.claims import is_machine_of
from gatewords.composing import composed_on_the_way
from gatewords.errors import BadLefts, BadWord, TooMany
from gatewords.lefts import firsts_shape, is_left_of, left_machine
from gatewords.letters import freed, is_list, is_short_row, turned_back
from gatewords.points import all_places_led, places_led, points_of
from gatewords.rowasking import first_row
from gatewords.rowjoins import both, joined
from gatewords.rowmakers import folded_tree, tree_of
from gatewords.shapes import least_shape, made, shape_of
from gatewords.steadies import want_steady

MOST_CONJUGATED = 20
MOST_SOLVED = 10


def are_pair_machines(many, thing):
    """Whether any value is a list of as many machines of pair rows as letters."""
    if not is_list(thing) or len(thing) != many:
        return False
    return all([is_machine_of((many + 1) ** 2, near) for near in thing])


class Sides:
    """A Steady with the lefts of its letters."""

    def __init__(self, steady, lefts):
        want_steady(steady)
        if not are_pair_machines(len(steady.claim.group.back), lefts):
            raise BadLefts(None)
        for letter, near in enumerate(lefts):
            if not is_left_of(steady, letter, near):
                raise BadLefts(letter)
        self.steady = steady
        self.lefts = tuple(lefts)

    def __eq__(self, other):
        return isinstance(other, Sides) and self.steady == other.steady and self.lefts == other.lefts


def want_sides(sides):
    """BadLefts(None) unless Sides."""
    if not isinstance(sides, Sides):
        raise BadLefts(None)


def sides_of(steady):
    """The Sides of a Steady."""
    want_steady(steady)
    return Sides(steady, [left_machine(steady, letter) for letter in range(len(steady.claim.group.back))])


def want_side_word(sides, word, most):
    """BadWord unless a word of at most so many letters."""
    if not is_short_row(len(sides.steady.claim.group.back), word, most):
        raise BadWord("not a word of so few letters")


def both_sides(sides, ahead, behind):
    """The shape of the pairs of a normal word and the normal word of it between two words."""
    claim = sides.steady.claim
    many = len(claim.group.back)
    shape = along_shape(claim, behind)
    for letter in ahead[::-1]:
        left = least_shape(shape_of(sides.lefts[letter]))
        shape = composed_on_the_way(many, shape, left)
    return shape


def few_solutions(points, one, other):
    """The shape of the words x, of few, for which one and x are alike with x and other."""
    words, moves = points
    start = places_led(moves, [0], one)
    goals = all_places_led(points, other)
    found = [word for word, to in zip(words, goals) if places_led(moves, start, word) == [to]]
    return folded_tree(tree_of(found))


def chained_solutions(sides, one, other):
    """The shape of the words x for which one and x are alike with x and other, by chains."""
    claim = sides.steady.claim
    many = len(claim.group.back)
    lefts = [sides.lefts[letter] for letter in freed(claim.group.back, one)[::-1]]
    links = links_of_nears(many, lefts if lefts else [claim.nears[0]])
    return chain_shape(many, links, [link_of(many, along_shape(claim, other))])


def halved_solutions(sides, one, other):
    """The same shape as chained_solutions tells, by one machine for either side."""
    claim = sides.steady.claim
    back = claim.group.back
    many = len(back)
    left = freed(back, one)
    right = freed(back, other)
    # Half of each word is put to the other side, which makes the least machines.
    half = len(left) // 2
    other_half = len(right) // 2
    shape = both_sides(sides, left[half:], turned_back(back, right[other_half:]))
    other_shape = both_sides(sides, turned_back(back, left[:half]), right[:other_half])
    alike = joined((many + 1) ** 2, shape, other_shape, both)
    return firsts_shape(many, shape_of(alike))


def solutions_told(sides, one, other):
    """The Machine of the normal words x for which one and x are alike with x and other."""
    many = len(sides.lefts)
    points = points_of(sides.steady)
    if points is not None:
        return made(many, few_solutions(points, one, other))
    try:
        return made(many, chained_solutions(sides, one, other))
    except TooMany:
        # Chains are small where letters hardly commute, machines of sides where they do.
        return made(many, halved_solutions(sides, one, other))


def conjugators_told(sides, one, other):
    """The Machine of the normal words that conjugate; BadLefts and BadWord as for all that ask so."""
    want_sides(sides)
    want_side_word(sides, one, MOST_CONJUGATED)
    want_side_word(sides, other, MOST_CONJUGATED)
    return solutions_told(sides, one, other)


def conjugators(sides, one, other):
    """The machine that takes the normal words x for which one and x are alike with x and other."""
    return conjugators_told(sides, one, other)


def is_conjugate(sides, one, other):
    """Whether some word conjugates one to other."""
    return first_row(conjugators_told(sides, one, other)) is not None


def conjugator(sides, one, other):
    """The first normal word that conjugates one to other, None if there is none."""
    return first_row(conjugators_told(sides, one, other))


def solutions(sides, one, two, three, four):
    """The machine of the normal words x for which one, x, two is alike with three, x, four."""
    want_sides(sides)
    for word in (one, two, three, four):
        want_side_word(sides, word, MOST_SOLVED)
    back = sides.steady.claim.group.back
    return solutions_told(sides, turned_back(back, three) + one, four + turned_back(back, two))
