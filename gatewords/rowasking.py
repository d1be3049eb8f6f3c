"""The first rows of machines, and the first rows in which two are unlike."""

from gatewords.machines import want_as_many, want_machine
from gatewords.shapes import live_states, shape_of


def ends_told(machine):
    """For each state whether it is an end, and False for nowhere, behind the last one."""
    told = [False] * (len(machine.ways) + 1)
    for end in machine.ends:
        told[end] = True
    return told


def ways_told(machine):
    """The ways of a machine with a number behind the last state's for nowhere."""
    last = len(machine.ways)
    told = [[last if to is None else to for to in way] for way in machine.ways]
    return told + [[last] * machine.letters]


def row_met(letters, came, at):
    """The row by which the standing at this place was met.

    came tells for each standing from which one and by which number it was met,
    as one number, which takes less room than a pair.
    """
    numbers = []
    while at:
        at, number = divmod(came[at], letters)
        numbers.append(number)
    return tuple(numbers[::-1])


def first_row(machine):
    """The least row that a machine takes, None if there is none."""
    want_machine(machine)
    ends = ends_told(machine)
    met = {0: True}
    order = [0]
    came = [0]
    at = 0
    while at < len(order):
        if ends[order[at]]:
            return row_met(machine.letters, came, at)
        for number, to in enumerate(machine.ways[order[at]]):
            if to is not None and to not in met:
                met[to] = True
                order.append(to)
                came.append(at * machine.letters + number)
        at += 1
    return None


def live_ways_told(machine):
    """For each state the list of pairs of a number and the live state to which it leads."""
    ways, ends = shape_of(machine)
    live = live_states(ways, ends)
    return [[(number, to) for number, to in way.items() if live[to]] for way in ways]


def least_beyond(one, other):
    """The least row that one takes and other does not, both with as many letters."""
    ends = ends_told(one)
    other_ends = ends_told(other)
    ways = live_ways_told(one)
    other_ways = ways_told(other)
    width = len(other_ways)
    met = [False] * (len(ways) * width)
    met[0] = True
    order = [0]
    came = [0]
    at = 0
    while at < len(order):
        state, other_state = divmod(order[at], width)
        if ends[state] and not other_ends[other_state]:
            return row_met(one.letters, came, at)
        other_way = other_ways[other_state]
        for number, to in ways[state]:
            standing = to * width + other_way[number]
            if not met[standing]:
                met[standing] = True
                order.append(standing)
                came.append(at * one.letters + number)
        at += 1
    return None


def first_beyond(one, other):
    """The least row that one takes and other does not, None if there is none."""
    want_as_many(one, other)
    return least_beyond(one, other)


def is_among(one, other):
    """Whether other takes all rows that one takes."""
    want_as_many(one, other)
    return least_beyond(one, other) is None


def head_of(heads, state):
    """The state that stands for all that are held alike with this one."""
    while heads[state] != state:
        heads[state] = heads[heads[state]]
        state = heads[state]
    return state


def first_apart(one, other):
    """The least row that just one of both takes, None if there is none.

    Two states that were met side by side are held alike from then on: if some
    row showed that they are not, an earlier pair of those that made them
    alike would show it by a lesser row. So few pairs are gone through.
    """
    want_as_many(one, other)
    many = len(one.ways) + 1
    ends = ends_told(one) + ends_told(other)
    ways = ways_told(one) + [[to + many for to in way] for way in ways_told(other)]
    heads = list(range(len(ways)))
    heads[many] = 0
    order = [(0, many)]
    came = [0]
    at = 0
    while at < len(order):
        state, other_state = order[at]
        if ends[state] != ends[other_state]:
            return row_met(one.letters, came, at)
        for number, to in enumerate(ways[state]):
            head = head_of(heads, to)
            other_head = head_of(heads, ways[other_state][number])
            if head != other_head:
                heads[other_head] = head
                order.append((to, ways[other_state][number]))
                came.append(at * one.letters + number)
        at += 1
    return None
