"""Lots that hold just the members of a subgroup, and papers that show it."""

from gatewords.claims import want_claim
from gatewords.cosetlots import lengths_to_ends, rest_from, turns_told
from gatewords.errors import BadMachine, BadPaper, BadSubgroup
from gatewords.leading import led_along, tables_of
from gatewords.letters import is_list, is_pair, is_row, rank, turned_back, want_word
from gatewords.lots import carried_machine, held_machine
from gatewords.machines import state_behind, want_machine
from gatewords.rowasking import first_apart
from gatewords.shapes import shape_of
from gatewords.subgroups import is_spelling, spelled_told, want_subgroup


def want_of_group(claim, sub):
    """BadClaim and BadSubgroup unless a Claim, and a Subgroup of its group."""
    want_claim(claim)
    want_subgroup(sub)
    if sub.group != claim.group:
        raise BadSubgroup("group")


def want_member_lot(claim, sub, lot):
    """The errors of a claim, a subgroup of its group, and a lot."""
    want_claim(claim)
    want_subgroup(sub)
    want_machine(lot)
    want_of_group(claim, sub)
    if lot.letters != len(claim.group.back):
        raise BadMachine("letters")


def first_unclosed(claim, sub, held):
    """Where what a machine holds is not closed under the gens, as unclosed tells it, or None."""
    if state_behind(held.ways, 0, ()) not in held.ends:
        return ((), None)
    back = claim.group.back
    for place, word in enumerate(sub.gens):
        # What undoes the gen leads what is held to the words that it leads to what is held.
        found = first_apart(held, carried_machine(claim, held, turned_back(back, word)))
        if found is not None:
            return (found, place)
    return None


def unclosed(claim, sub, lot):
    """The first normal word and gen by which a lot is not closed, None if it is closed."""
    want_member_lot(claim, sub, lot)
    return first_unclosed(claim, sub, held_machine(claim, lot))


def is_spelled_turn(claim, tables, sub, turn, thing):
    """Whether any value is a pair of a turn and a spelling of what is alike with it."""
    if not is_pair(thing) or not is_row(len(claim.group.back), thing[0]) or thing[0] != turn:
        return False
    return is_spelling(sub, thing[1]) and led_along(tables, (), spelled_told(sub, thing[1])) == turn


def is_paper_of(claim, sub, held, thing):
    """Whether any value is a member paper for what a machine holds."""
    if not is_list(thing) or first_unclosed(claim, sub, held) is not None:
        return False
    told = sorted(turns_told(claim, held), key=rank)
    if len(told) != len(thing):
        return False
    tables = tables_of(claim)
    return all([is_spelled_turn(claim, tables, sub, turn, one) for turn, one in zip(told, thing)])


def is_member_paper(claim, sub, lot, thing):
    """Whether a lot is closed and any value tells a spelling of each of its turns."""
    want_member_lot(claim, sub, lot)
    return is_paper_of(claim, sub, held_machine(claim, lot), thing)


def turns_along(claim, held, word):
    """The turns of the beginnings of a held word and the letters behind them, one after another."""
    back = claim.group.back
    tables = tables_of(claim)
    ways, ends = shape_of(held)
    lengths = lengths_to_ends((ways, ends))
    state = 0
    found = []
    for letter in word:
        to = ways[state][letter]
        rest = rest_from(ways, lengths, state)
        behind = rest_from(ways, lengths, to)
        found.append(led_along(tables, (), turned_back(back, rest) + (letter,) + behind))
        state = to
    return found


def member_spelling(claim, sub, lot, paper, word):
    """The spelling of a word's element that a member paper tells, None if it is not held."""
    want_member_lot(claim, sub, lot)
    held = held_machine(claim, lot)
    if not is_paper_of(claim, sub, held, paper):
        raise BadPaper("not a member paper of this lot")
    want_word(claim.group.back, word)
    here = led_along(tables_of(claim), (), word)
    if state_behind(held.ways, 0, here) not in held.ends:
        return None
    spellings = {turn: spelling for turn, spelling in paper}
    spellings[()] = ()
    numbers = []
    for turn in turns_along(claim, held, here):
        numbers.extend(spellings[turn])
    return tuple(numbers)
