"""Nears put together, and what near pairs with several words."""

from gatewords.errors import TooMany
from gatewords.leastrows import least_row
from gatewords.letters import want_back
from gatewords.machines import MOST_STATES, want_machine
from gatewords.pairmakers import number_of, want_near
from gatewords.partners import marks_of_tails, partners, ways_beside
from gatewords.projections import near_shape, ways_by_first
from gatewords.shapes import least_shape, made, states_before
from gatewords.standings import MOST_ON_THE_WAY, SILENT, determined, spread_many


def ended_too(many, by_letter, ends):
    """The ways with one state more, behind the others, for both words having ended."""
    last = len(by_letter)
    found = []
    for ways, end in zip(by_letter, ends):
        longer = dict(ways)
        if end:
            longer[many] = ways.get(many, []) + [(many, last)]
        found.append(longer)
    return found + [{many: [(many, last)]}]


def ways_by_second(many, ways):
    """For each state the dict that tells for second letters the pairs of a first one and a state."""
    found = []
    for by_first in ways_by_first(many, ways):
        by_second = {}
        for first, pairs in by_first.items():
            for second, to in pairs:
                by_second.setdefault(second, []).append((first, to))
        found.append(by_second)
    return found


def composed_shape(many, one, other):
    """The shape of the pairs of what one pairs with something that other pairs further.

    The word between both may be longer than they are: the rest of it is read
    without a sign of it.
    """
    ways = ended_too(many, ways_by_second(many, one[0]), one[1])
    other_ways = ended_too(many, ways_by_first(many, other[0]), other[1])

    def steps(standing):
        state, other_state = standing
        found = []
        for letter, pairs in ways[state].items():
            others = other_ways[other_state].get(letter, [])
            for first, to in pairs:
                for second, other_to in others:
                    silent = first == many and second == many
                    number = SILENT if silent else number_of(many, first, second)
                    found.append((number, (to, other_to)))
        return found

    standings, made_ways = spread_many((0, 0), steps, None)
    ends = one[1] + [True]
    other_ends = other[1] + [True]
    return determined(made_ways, [ends[state] and other_ends[at] for state, at in standings])


def composed_on_the_way(many, one, other):
    """The composed shape in its least form; TooMany(2000) if it is too large to go on with."""
    shape = least_shape(composed_shape(many, one, other))
    if len(shape[0]) > MOST_ON_THE_WAY:
        raise TooMany(MOST_STATES)
    return shape


def composed(back, one, other):
    """The near that pairs a with c if one pairs a with some b that other pairs with c."""
    want_machine(one)
    want_machine(other)
    want_back(back)
    want_near(back, one)
    want_near(back, other)
    many = len(back)
    shape = composed_shape(many, near_shape(back, one), near_shape(back, other))
    return made((many + 1) ** 2, shape)


def states_with_several(shape, tails, live):
    """For each state whether letters of the second word alone lead to ends in several ways."""
    marks = []
    for state, way in enumerate(tails):
        goals = [to for to in way.values() if live[to]]
        marks.append(len(goals) + int(shape[1][state]) > 1)
    live_tails = [[to for to in way.values() if live[to]] for way in tails]
    return states_before(live_tails, marks)


def split_steps(by_first, standing):
    """The steps of two second words beside the same first one; one state while they are alike."""
    found = []
    if len(standing) == 1:
        for first, pairs in by_first[standing[0]].items():
            for second, to in pairs:
                found.append((first, (to,)))
                for later, other in pairs:
                    if second < later:
                        found.append((first, (min(to, other), max(to, other))))
        return found
    state, other_state = standing
    for first, pairs in by_first[state].items():
        for _, to in pairs:
            for _, other in by_first[other_state].get(first, []):
                found.append((first, (min(to, other), max(to, other))))
    return found


def has_two(standing, several, live):
    """Whether the first word may end there, both second ones, unlike, going on to ends."""
    if len(standing) == 1:
        return several[standing[0]]
    return live[standing[0]] and live[standing[1]]


def first_split(back, near):
    """The least word paired with several, and the two least of these; None if there is none."""
    want_machine(near)
    want_back(back)
    want_near(back, near)
    many = len(back)
    shape = near_shape(back, near)
    tails = ways_beside(many, shape[0], many)
    live = marks_of_tails(shape, tails)
    several = states_with_several(shape, tails, live)
    by_first = [{first: way[first] for first in way if first < many}
                for way in ways_by_first(many, shape[0])]

    def steps(standing):
        return split_steps(by_first, standing)

    def is_end(standing):
        return has_two(standing, several, live)

    word = least_row((0,), steps, is_end)
    if word is None:
        return None
    one, other = partners(many, shape, word, 2)
    return (word, one, other)
