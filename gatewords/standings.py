"""Shapes made of standings, which are tuples of states of other machines.

Where rows may lead to several standings, the shape is made of lists of them.
"""

from gatewords.errors import TooMany
from gatewords.machines import MOST_STATES
from gatewords.shapes import no_shape, states_before

# The document leaves open what happens behind 20000 sets of standings; those
# here may tell more apart than the document counts, so more of them are let.
MOST_SETS = 45000
# Machines on the way to others may be larger than those that are told.
MOST_ON_THE_WAY = 10000
SILENT = -1


def place_of_standing(places, standings, standing, most):
    """The place of a standing, which is put behind the others if it is new."""
    if standing not in places:
        if most is not None and len(standings) >= most:
            raise TooMany(MOST_STATES)
        places[standing] = len(standings)
        standings.append(standing)
    return places[standing]


def spread(first, steps, most):
    """All standings to which steps lead from the first one, and the ways between them.

    steps gives for a standing the list of pairs of a number and the standing
    to which it leads, just one for each number.
    """
    places = {first: 0}
    standings = [first]
    ways = []
    while len(ways) < len(standings):
        way = {}
        here = steps(standings[len(ways)])
        for number, standing in here:
            way[number] = place_of_standing(places, standings, standing, most)
        ways.append(way)
    return standings, ways


def spread_many(first, steps, most):
    """Like spread, with any number of standings for each number.

    What comes back has for each standing a dict that tells for numbers the
    list of places of standings to which they lead.
    """
    places = {first: 0}
    standings = [first]
    ways = []
    while len(ways) < len(standings):
        way = {}
        here = steps(standings[len(ways)])
        for number, standing in here:
            place = place_of_standing(places, standings, standing, most)
            way.setdefault(number, {})[place] = True
        ways.append({number: list(way[number]) for number in way})
    return standings, ways


def silent_ends(ways, ends):
    """For each standing whether silent steps alone lead from it to an end."""
    return states_before([way.get(SILENT, []) for way in ways], ends)


def read_ways(ways):
    """The ways without silent ones."""
    return [{number: way[number] for number in way if number != SILENT} for way in ways]


def linked(ways):
    """For each standing the list of those to which its ways lead."""
    return [[to for number in way for to in way[number]] for way in ways]


def live_ways(ways, live):
    """The ways to live standings alone."""
    kept = []
    for way in ways:
        goals = {number: [to for to in way[number] if live[to]] for number in way}
        kept.append({number: goals[number] for number in goals if goals[number]})
    return kept


def steps_of_set(ways, places):
    """The pairs of a number and the ascending tuple of places to which it leads some of these."""
    goals = {}
    for place in places:
        way = ways[place]
        for number in way:
            found = goals.setdefault(number, {})
            for to in way[number]:
                found[to] = True
    return [(number, tuple(sorted(goals[number]))) for number in goals]


def determined(ways, ends):
    """The shape that takes the rows of which some way, with silent steps behind, leads to an end."""
    ends = silent_ends(ways, ends)
    read = read_ways(ways)
    live = states_before(linked(read), ends)
    if not live[0]:
        return no_shape()
    kept = live_ways(read, live)
    sets, ways_of_sets = spread((0,), lambda places: steps_of_set(kept, places), MOST_SETS)
    return ways_of_sets, [any([ends[place] for place in places]) for places in sets]
