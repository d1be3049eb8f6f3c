"""Rows in which none of the rows of a machine stands."""

from gatewords.machines import want_machine
from gatewords.rowmakers import avoiding, tree_of
from gatewords.shapes import least_shape, made, no_shape, shape_of, states_before
from gatewords.standings import MOST_SETS, linked, live_ways, spread, steps_of_set
from gatewords.systems import want_system


def cleared(letters, ways, ends):
    """The shape of the rows in which no row stands that ways may lead to an end.

    ways has for each standing a dict that tells for numbers the list of those to
    which they lead. Rows may begin anywhere, so that 0 is always among the
    standings to which ends of what was read lead.
    """
    live = states_before(linked(ways), ends)
    if ends[0]:
        return no_shape()
    kept = live_ways(ways, live)

    def steps(places):
        goals = dict(steps_of_set(kept, places))
        found = []
        for number in range(letters):
            led = goals.get(number, ())
            if not any([ends[to] for to in led]):
                found.append((number, led if 0 in led else (0,) + led))
        return found

    standings, made_ways = spread((0,), steps, MOST_SETS)
    return made_ways, [True] * len(standings)


def clear_of(machine):
    """The machine that takes the rows in which no row stands that a machine takes."""
    want_machine(machine)
    ways, ends = least_shape(shape_of(machine))
    many_ways = [{number: [to] for number, to in way.items()} for way in ways]
    return made(machine.letters, cleared(machine.letters, many_ways, ends))


def reduced_rows(system):
    """The machine that takes just the reduced words of a system."""
    want_system(system)
    many = len(system.back)
    return made(many, avoiding(many, tree_of([left for left, _ in system.rules])))
