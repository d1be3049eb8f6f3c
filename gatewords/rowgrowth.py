"""How many rows a machine takes in all, and papers that show it."""

from gatewords.knots import finished_order, knots_of
from gatewords.letters import is_row
from gatewords.machines import state_behind, want_machine
from gatewords.shapes import live_states, met_states, shape_of, trimmed


def links_of(ways):
    """For each state the list of those to which its ways lead, one for each way."""
    return [list(way.values()) for way in ways]


def inner_ways(links, knots, places):
    """For each knot how many ways lead from it to itself."""
    inner = [0] * len(knots)
    for state, leads in enumerate(links):
        for to in leads:
            if places[to] == places[state]:
                inner[places[state]] += 1
    return inner


def has_round(links):
    """Whether some state leads back to itself."""
    knots, places = knots_of(links)
    return any(inner_ways(links, knots, places))


def is_finite(machine):
    """Whether a machine takes finitely many rows."""
    want_machine(machine)
    ways, _ = trimmed(shape_of(machine))
    return not has_round(links_of(ways))


def how_many(machine):
    """How many rows a machine takes, None if there is no end."""
    want_machine(machine)
    ways, ends = trimmed(shape_of(machine))
    links = links_of(ways)
    if has_round(links):
        return None
    many = [0] * len(links)
    for state in finished_order(links):
        many[state] = int(ends[state]) + sum([many[to] for to in links[state]])
    return many[0]


def least_length(ways, ends):
    """The least length of a row that a trimmed shape, which takes some row, takes."""
    far = {0: 0}
    for state in met_states(ways):
        if ends[state]:
            return far[state]
        for to in ways[state].values():
            far.setdefault(to, far[state] + 1)
    return None


def greatest_length(links):
    """The most steps one behind the other, of links without a way back."""
    far = [0] * len(links)
    for state in finished_order(links):
        far[state] = max([far[to] + 1 for to in links[state]], default=0)
    return far[0]


def row_lengths(machine):
    """The least and the greatest length of a row, None for no end; None if there is no row."""
    want_machine(machine)
    ways, ends = trimmed(shape_of(machine))
    if not any(ends):
        return None
    links = links_of(ways)
    if has_round(links):
        return (least_length(ways, ends), None)
    # All states lead to ends, so that the most steps end in one.
    return (least_length(ways, ends), greatest_length(links))


def growth_of(machine):
    """The power by which the number of rows up to a length grows, None beyond all powers."""
    want_machine(machine)
    ways, _ = trimmed(shape_of(machine))
    links = links_of(ways)
    knots, places = knots_of(links)
    inner = inner_ways(links, knots, places)
    if any([many > len(knot) for many, knot in zip(inner, knots)]):
        return None
    # Each round that a row may go about as often as it likes adds one power.
    powers = [0] * len(knots)
    for place in reversed(range(len(knots))):
        onward = [powers[places[to]] for state in knots[place] for to in links[state]
                  if places[to] != place]
        powers[place] = max(onward, default=0) + int(inner[place] > 0)
    return powers[0]


def are_rows_of(machine, many, thing):
    """Whether any value is a tuple of so many rows."""
    if not isinstance(thing, tuple) or len(thing) != many:
        return False
    return all([is_row(machine.letters, row) for row in thing])


def is_round_paper(machine, thing):
    """Whether any value is a round paper of a machine."""
    want_machine(machine)
    if not are_rows_of(machine, 3, thing):
        return False
    front, again, behind = thing
    state = state_behind(machine.ways, 0, front)
    if again == () or state is None or state_behind(machine.ways, state, again) != state:
        return False
    return state_behind(machine.ways, state, behind) in machine.ends


def is_fork_paper(machine, thing):
    """Whether any value is a fork paper of a machine."""
    want_machine(machine)
    if not are_rows_of(machine, 4, thing):
        return False
    front, one, other, behind = thing
    size = min(len(one), len(other))
    state = state_behind(machine.ways, 0, front)
    if state is None or one[:size] == other[:size]:
        return False
    if any([state_behind(machine.ways, state, row) != state for row in (one, other)]):
        return False
    return state_behind(machine.ways, state, behind) in machine.ends


def useful_ways(machine):
    """The ways between states that rows meet and from which some row leads to an end."""
    ways, ends = shape_of(machine)
    live = live_states(ways, ends)
    met = {state: live[state] for state in met_states(ways)}
    useful = []
    for state, way in enumerate(ways):
        keeps = met.get(state, False)
        useful.append({number: to for number, to in way.items() if keeps and live[to]})
    return useful


def row_between(ways, start, goals):
    """The least row that leads from a state to one of the goals."""
    rows = {start: ()}
    order = [start]
    at = 0
    while order[at] not in goals:
        state = order[at]
        for number in sorted(ways[state]):
            to = ways[state][number]
            if to not in rows:
                rows[to] = rows[state] + (number,)
                order.append(to)
        at += 1
    return rows[order[at]]


def first_knot(ways, more):
    """The state and the numbers by which it stays in its knot, of the first one with so many more.

    more is how many ways a knot must have beyond its states; None if there is none.
    """
    links = links_of(ways)
    knots, places = knots_of(links)
    inner = inner_ways(links, knots, places)
    for knot, many in zip(knots, inner):
        if many and many >= len(knot) + more:
            for state in knot:
                numbers = [x for x in sorted(ways[state]) if places[ways[state][x]] == places[state]]
                if len(numbers) > more:
                    return state, numbers
    return None


def paper_at(machine, ways, found, more):
    """The paper of a state that stays in its knot by more numbers than more."""
    state, numbers = found
    ends = {end: True for end in machine.ends}
    rounds = []
    for number in numbers[:more + 1]:
        rounds.append((number,) + row_between(ways, ways[state][number], {state: True}))
    return (row_between(ways, 0, {state: True}), *rounds, row_between(ways, state, ends))


def round_paper(machine):
    """A round paper of a machine, None if there is none."""
    want_machine(machine)
    ways = useful_ways(machine)
    found = first_knot(ways, 0)
    return None if found is None else paper_at(machine, ways, found, 0)


def fork_paper(machine):
    """A fork paper of a machine, None if there is none."""
    want_machine(machine)
    ways = useful_ways(machine)
    found = first_knot(ways, 1)
    return None if found is None else paper_at(machine, ways, found, 1)
