"""Cosets of the subgroup that a lot holds."""

from gatewords.errors import BadNumber, TooMany
from gatewords.leading import tables_of
from gatewords.letters import is_number_in, rank, turned_back, want_word
from gatewords.lots import carried_shape, held_machine, holds, want_lot
from gatewords.machines import Machine
from gatewords.rowasking import first_row
from gatewords.shapes import machine_of, shape_of

MOST_COSETS = 60


def least_of_coset(claim, shape):
    """The least word that a shape, of a coset, takes."""
    return first_row(machine_of(len(claim.group.back), shape))


def coset_least(claim, lot, word):
    """The least of the normal words in one coset with a word."""
    want_lot(claim, lot)
    want_word(claim.group.back, word)
    return least_of_coset(claim, carried_shape(claim, shape_of(held_machine(claim, lot)), word))


def same_coset(claim, lot, one, other):
    """Whether two words are in one coset."""
    want_lot(claim, lot)
    back = claim.group.back
    want_word(back, one)
    want_word(back, other)
    return holds(claim, tables_of(claim), lot, one + turned_back(back, other))


def cosets_met(claim, lot, most):
    """The cosets of the words of at most most letters, None for all words, as they are first met.

    Each is told by its least word. With them come, for each of fewer letters,
    the places of those to which letters lead.
    """
    many = len(claim.group.back)
    shape = shape_of(held_machine(claim, lot))
    shapes = [shape]
    far = [0]
    leasts = {least_of_coset(claim, shape): 0}
    ways = []
    while len(ways) < len(shapes) and (most is None or far[len(ways)] < most):
        way = []
        for letter in range(many):
            behind = carried_shape(claim, shapes[len(ways)], (letter,))
            least = least_of_coset(claim, behind)
            if least not in leasts:
                leasts[least] = len(shapes)
                shapes.append(behind)
                far.append(far[len(ways)] + 1)
            way.append(leasts[least])
        if len(shapes) > MOST_COSETS:
            raise TooMany(MOST_COSETS)
        ways.append(way)
    return leasts, ways


def coset_leasts(claim, lot, most):
    """The least words of the cosets of all words of at most most letters, in their order."""
    want_lot(claim, lot)
    if not is_number_in(most, 0, 8):
        raise BadNumber("most")
    leasts, _ = cosets_met(claim, lot, most)
    return sorted(leasts, key=rank)


def coset_table(claim, lot):
    """The machine of all cosets, to which letters lead from one another, that of () being 0."""
    want_lot(claim, lot)
    _, ways = cosets_met(claim, lot, None)
    return Machine(len(claim.group.back), ways, [0])


def index_of(claim, lot):
    """How many cosets there are."""
    want_lot(claim, lot)
    _, ways = cosets_met(claim, lot, None)
    return len(ways)
