"""Lots that hold cosets of subgroups, and papers against those that hold none."""

from gatewords.leading import led_along, tables_of
from gatewords.leastforms import least_fronts
from gatewords.letters import is_row, rank, turned_back
from gatewords.lots import carried_machine, held_machine, takes_both, want_lot
from gatewords.machines import state_behind
from gatewords.rowasking import first_beyond, first_row
from gatewords.shapes import shape_of, states_into


def lengths_to_ends(shape):
    """For each state the least length of a row that leads from it to an end, None if there is none."""
    ways, ends = shape
    into = states_into([list(way.values()) for way in ways])
    lengths = [0 if end else None for end in ends]
    order = [state for state, end in enumerate(ends) if end]
    at = 0
    while at < len(order):
        for state in into[order[at]]:
            if lengths[state] is None:
                lengths[state] = lengths[order[at]] + 1
                order.append(state)
        at += 1
    return lengths


def rest_from(ways, lengths, state):
    """The least row that leads from a state, from which some row does, to an end."""
    rest = []
    while lengths[state]:
        way = ways[state]
        number = min([x for x in way if lengths[way[x]] == lengths[state] - 1])
        rest.append(number)
        state = way[number]
    return tuple(rest)


def turns_told(claim, held):
    """The turns of what a machine holds, () left out, each with the first state and letter that have it."""
    ways, ends = shape_of(held)
    if not any(ends):
        return {}
    back = claim.group.back
    tables = tables_of(claim)
    lengths = lengths_to_ends((ways, ends))
    rests = [rest_from(ways, lengths, state) for state in range(len(ways))]
    found = {}
    for state, way in enumerate(ways):
        for letter, to in way.items():
            word = turned_back(back, rests[state]) + (letter,) + rests[to]
            turn = led_along(tables, (), word)
            if turn:
                found.setdefault(turn, (state, letter))
    return found


def turns(claim, lot):
    """The list of all unlike turns of a lot but (), in their order."""
    want_lot(claim, lot)
    return sorted(turns_told(claim, held_machine(claim, lot)), key=rank)


def first_turn_off(claim, held, told):
    """The first of the turns by which what is held is carried to something else, and to what."""
    for turn in sorted(told, key=rank):
        moved = carried_machine(claim, held, turn)
        if moved != held:
            return turn, moved
    return None


def paper_of_turn(claim, held, told, turn, moved):
    """The paper against a coset that a turn shows, moved telling where it carries what is held."""
    back = claim.group.back
    tables = tables_of(claim)
    ways, ends = shape_of(held)
    state, letter = told[turn]
    lengths = lengths_to_ends((ways, ends))
    front = least_fronts(ways)[state]
    one = front + rest_from(ways, lengths, state)
    other = front + (letter,) + rest_from(ways, lengths, ways[state][letter])
    # The turn is what undoes one, with other behind it.
    off = first_beyond(moved, held)
    if off is not None:
        return (led_along(tables, off, turned_back(back, turn)), one, other)
    # All is carried into what is held, but not onto it.
    lost = first_beyond(held, moved)
    return (lost, other, one)


def not_coset(claim, lot):
    """A paper that a lot holds no coset, None if it holds one."""
    want_lot(claim, lot)
    held = held_machine(claim, lot)
    if not held.ends:
        return ()
    told = turns_told(claim, held)
    found = first_turn_off(claim, held, told)
    return None if found is None else paper_of_turn(claim, held, told, found[0], found[1])


def is_against_coset(claim, lot, thing):
    """Whether any value is a paper that a lot holds no coset."""
    want_lot(claim, lot)
    if not isinstance(thing, tuple):
        return False
    if thing == ():
        return not held_machine(claim, lot).ends
    back = claim.group.back
    if len(thing) != 3 or not all([is_row(len(back), word) for word in thing]):
        return False
    if not all([takes_both(claim, lot, word) for word in thing]):
        return False
    one, other, third = thing
    tables = tables_of(claim)
    return not takes_both(claim, lot, led_along(tables, one, turned_back(back, other) + third))


def coset_of(claim, lot):
    """The least held word and the turns, None unless what is held is a coset."""
    want_lot(claim, lot)
    held = held_machine(claim, lot)
    if not held.ends:
        return None
    told = turns_told(claim, held)
    if first_turn_off(claim, held, told) is not None:
        return None
    return (first_row(held), sorted(told, key=rank))


def is_sublot(claim, lot):
    """Whether the elements that a lot holds are a subgroup."""
    want_lot(claim, lot)
    held = held_machine(claim, lot)
    if state_behind(held.ways, 0, ()) not in held.ends:
        return False
    return first_turn_off(claim, held, turns_told(claim, held)) is None
