"""Lefts, which pair normal words with those of a letter ahead of them."""

from gatewords.composing import composed_shape
from gatewords.errors import BadNumber
from gatewords.faults import least_no_pair
from gatewords.leading import led_along
from gatewords.letters import is_number_in
from gatewords.machines import want_machine
from gatewords.pairmakers import made_near, turned_shape, want_near
from gatewords.partners import partners
from gatewords.projections import led_shape
from gatewords.rowmakers import all_shape
from gatewords.shapes import least_shape, machine_of, shape_of
from gatewords.steadies import want_steady
from gatewords.wordgaps import Gaps, gaps_shape, put_paths, rows_missed


def want_letter(steady, letter):
    """BadNumber("letter") unless a letter."""
    if not is_number_in(letter, 0, len(steady.claim.group.back) - 1):
        raise BadNumber("letter")


def commutes(many, shape, near):
    """Whether a shape, before or behind a near, pairs the same words."""
    other = least_shape(shape_of(near))
    before = least_shape(composed_shape(many, shape, other))
    return before == least_shape(composed_shape(many, other, shape))


def is_left_of(steady, letter, near):
    """Whether a Machine of pair rows is the left of a letter."""
    claim = steady.claim
    many = len(claim.group.back)
    pairing = made_near(many, shape_of(near))
    shape = shape_of(pairing)
    if partners(many, shape, (), 2) != [led_along(steady.tables, (), (letter,))]:
        return False
    if least_no_pair(claim, pairing) is not None:
        return False
    return all([commutes(many, shape, other) for other in claim.nears[1:]])


def is_left(steady, letter, near):
    """Whether a near is right at () and leads, before or behind each letter's near, to the same."""
    want_steady(steady)
    want_letter(steady, letter)
    want_machine(near)
    want_near(steady.claim.group.back, near)
    return is_left_of(steady, letter, near)


def firsts_shape(many, shape):
    """The shape, in its least form, of the words that a shape of pair rows pairs with some word."""
    return least_shape(led_shape(many, all_shape(many), turned_shape(many, shape)))


def left_machine(steady, letter):
    """The near that pairs each normal word with the normal word of a letter and it."""
    back = steady.claim.group.back
    many = len(back)
    words = least_shape(shape_of(steady.claim.words))
    gaps = Gaps(steady, led_along(steady.tables, (), (back[letter],)))
    gaps.put(gaps.first)
    while True:
        shape = gaps_shape(gaps, words, words, True)
        missed = rows_missed(many, words, firsts_shape(many, shape))
        if not missed:
            return machine_of((many + 1) ** 2, shape)
        put_paths(gaps, [(word, led_along(steady.tables, (), (letter,) + word)) for word in missed])


def left_of(steady, letter):
    """The near that pairs each normal word with the normal word of a letter and it."""
    want_steady(steady)
    want_letter(steady, letter)
    return left_machine(steady, letter)
