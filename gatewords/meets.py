"""What two lots both hold, what two tables both take, and normal subgroups."""

from gatewords.claims import want_claim
from gatewords.cosettables import want_table
from gatewords.groups import want_group
from gatewords.leading import tables_of
from gatewords.lots import held_machine, holds, want_lot
from gatewords.machines import MOST_STATES, Machine, want_machine
from gatewords.members import want_member_lot
from gatewords.rowjoins import both, joined
from gatewords.shapes import shape_of
from gatewords.standings import spread


def want_lots(claim, lot, other):
    """BadClaim(None), BadMachine(None), and BadMachine("letters") unless two lots of a claim."""
    want_claim(claim)
    want_machine(lot)
    want_machine(other)
    want_lot(claim, lot)
    want_lot(claim, other)


def meet(claim, lot, other):
    """The machine of the normal words that two lots hold."""
    want_lots(claim, lot, other)
    first = shape_of(held_machine(claim, lot))
    return joined(lot.letters, first, shape_of(held_machine(claim, other)), both)


def not_normal(claim, sub, lot):
    """The first letter and place of a gen that this letter carries to no member, None if there is none."""
    want_member_lot(claim, sub, lot)
    back = claim.group.back
    tables = tables_of(claim)
    for letter, undoing in enumerate(back):
        for place, word in enumerate(sub.gens):
            if not holds(claim, tables, lot, (undoing,) + word + (letter,)):
                return (letter, place)
    return None


def table_of_standings(many, first, goal):
    """The table of the standings to which letters lead the first one, as goal tells; TooMany if too many."""

    def steps(standing):
        return [(letter, goal(standing, letter)) for letter in range(many)]

    _, ways = spread(first, steps, MOST_STATES)
    return Machine(many, [[way[letter] for letter in range(many)] for way in ways], [0])


def tables_met(group, one, other):
    """The table of the words that lead back to 0 in two tables."""
    want_group(group)
    want_machine(one)
    want_machine(other)
    want_table(group, one)
    want_table(group, other)

    def goal(standing, letter):
        return (one.ways[standing[0]][letter], other.ways[standing[1]][letter])

    return table_of_standings(len(group.back), (0, 0), goal)


def is_moved_onto_itself(ways, state):
    """Whether letters lead on from a state of a table just as they do from 0."""
    places = {0: state}
    order = [0]
    at = 0
    while at < len(order):
        here = order[at]
        for letter, to in enumerate(ways[here]):
            goal = ways[places[here]][letter]
            if to not in places:
                places[to] = goal
                order.append(to)
            elif places[to] != goal:
                return False
        at += 1
    return True


def is_normal_table(group, table):
    """Whether words that lead from 0 to 0 lead from each state to itself."""
    want_table(group, table)
    # Where each letter's state is like 0, so is each state to which letters lead on.
    return all([is_moved_onto_itself(table.ways, state) for state in sorted(set(table.ways[0]))])


def table_core(group, table):
    """The table of the words that lead from each state of a table to itself."""
    want_table(group, table)

    def goal(standing, letter):
        return tuple([table.ways[state][letter] for state in standing])

    return table_of_standings(len(group.back), tuple(range(len(table.ways))), goal)
