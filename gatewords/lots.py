"""Lots, which are machines that hold some of the normal words of a claim."""

from gatewords.claims import want_claim
from gatewords.errors import BadMachine, TooMany
from gatewords.leading import led_along, tables_of
from gatewords.letters import freed, want_word
from gatewords.machines import MOST_STATES, state_behind, want_machine
from gatewords.projections import led_shape
from gatewords.rowjoins import both, joined
from gatewords.shapes import least_shape, machine_of, shape_of
from gatewords.standings import MOST_ON_THE_WAY


def want_lot(claim, lot):
    """BadClaim(None) unless a Claim, BadMachine unless a Machine with its group's letters."""
    want_claim(claim)
    want_machine(lot)
    if lot.letters != len(claim.group.back):
        raise BadMachine("letters")


def held_machine(claim, lot):
    """The Machine of the normal words that a lot takes."""
    return joined(lot.letters, least_shape(shape_of(claim.words)), least_shape(shape_of(lot)), both)


def held_words(claim, lot):
    """The machine that takes just the normal words that a lot holds."""
    want_lot(claim, lot)
    return held_machine(claim, lot)


def takes_both(claim, lot, word):
    """Whether a tuple of letters is normal and the lot takes it."""
    taken = state_behind(lot.ways, 0, word) in lot.ends
    return taken and state_behind(claim.words.ways, 0, word) in claim.words.ends


def holds(claim, tables, lot, word):
    """Whether a lot holds the element of a tuple of letters, which tables lead."""
    return takes_both(claim, lot, led_along(tables, (), word))


def is_held(claim, lot, word):
    """Whether a lot holds the element of a word."""
    want_lot(claim, lot)
    want_word(claim.group.back, word)
    return holds(claim, tables_of(claim), lot, word)


def carried_shape(claim, shape, word):
    """The shape, in its least form, of the words to which a word leads those that a shape takes."""
    many = len(claim.group.back)
    for letter in freed(claim.group.back, word):
        near = least_shape(shape_of(claim.nears[letter + 1]))
        shape = least_shape(led_shape(many, shape, near))
        if len(shape[0]) > MOST_ON_THE_WAY:
            raise TooMany(MOST_STATES)
    return shape


def carried_machine(claim, held, word):
    """The Machine of the words to which a word leads those that a machine takes, which are normal."""
    return machine_of(held.letters, carried_shape(claim, least_shape(shape_of(held)), word))


def carried(claim, lot, word):
    """The machine that takes just the normal words of what a lot holds with a word behind it."""
    want_lot(claim, lot)
    want_word(claim.group.back, word)
    return carried_machine(claim, held_machine(claim, lot), word)
