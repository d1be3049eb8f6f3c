"""Lots of subgroups found by layers, with papers."""

from gatewords.cosetlots import turns_told
from gatewords.errors import TooMany
from gatewords.folding import MOST_SPELLED
from gatewords.layers import MOST_LAYER, Layers, layers_up_to, read_spelling, short_spellings
from gatewords.leading import led_along, tables_of
from gatewords.letters import rank
from gatewords.lots import held_machine, takes_both
from gatewords.members import first_unclosed, want_of_group
from gatewords.subgroups import freed_spelling, word_of_number


def may_be_closed(claim, tables, sub, held):
    """Whether a machine holds all gens and what undoes them, which is soon seen."""
    words = [word_of_number(sub, number) for number in range(2 * len(sub.gens))]
    return all([takes_both(claim, held, led_along(tables, (), word)) for word in words])


def lot_found(claim, sub):
    """The least number of a layer to which all members' normal words lead back, and the lot of them."""
    tables = tables_of(claim)
    layers = Layers(sub, False)
    for number in range(MOST_LAYER + 1):
        if number:
            stayed = layers.stays
            layers.go_on()
            # A layer that stays holds what did not do.
            if stayed:
                break
        held = held_machine(claim, layers.machine())
        if may_be_closed(claim, tables, sub, held) and first_unclosed(claim, sub, held) is None:
            return number, held
    raise TooMany(MOST_LAYER)


def spellings_of_turns(claim, sub, number, told):
    """A spelling for each of some turns, which lead from 0 to 0 in a layer; TooMany where they are too long."""
    layers = layers_up_to(sub, number, True)
    found = [read_spelling(layers, turn) for turn in told]
    if None not in found:
        return found
    tables = tables_of(claim)
    known = short_spellings(sub, lambda here, part: led_along(tables, here, part))
    found = [known.get(turn) if spelling is None else spelling for turn, spelling in zip(told, found)]
    if None in found:
        raise TooMany(MOST_SPELLED)
    return found


def members_found(claim, sub):
    """The least number of a layer that reads all members, the lot of these, and a member paper."""
    want_of_group(claim, sub)
    number, lot = lot_found(claim, sub)
    told = sorted(turns_told(claim, lot), key=rank)
    spellings = spellings_of_turns(claim, sub, number, told)
    return (number, lot, [(turn, freed_spelling(spelling)) for turn, spelling in zip(told, spellings)])
