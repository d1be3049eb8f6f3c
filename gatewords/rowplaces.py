"""The places of rows among all rows that a machine takes."""

from gatewords.errors import BadNumber, TooMany
from gatewords.letters import is_number_in
from gatewords.machines import state_behind, want_machine, want_row
from gatewords.rowcounts import counts_up_to, times_led
from gatewords.rowgrowth import how_many
from gatewords.shapes import shape_of, trimmed

MOST_NUMBERS = 200
MOST_PLACE = 10 ** 60


def counts_on(shape, most):
    """For each length up to most, and each state, how many such rows lead from it to ends."""
    ways, ends = shape
    led = times_led(ways)
    found = [[int(end) for end in ends]]
    for _ in range(most):
        last = found[-1]
        found.append([sum([times * last[to] for to, times in pairs]) for pairs in led])
    return found


def want_place(machine, place):
    """BadNumber("place") unless there is a row with so many ahead, at most 10 ** 60."""
    if not is_number_in(place, 0, MOST_PLACE):
        raise BadNumber("place")
    many = how_many(machine)
    if many is not None and place >= many:
        raise BadNumber("place")


def length_at(counts, place):
    """The length of the row at a place, and its place among the rows of this length."""
    for length, many in enumerate(counts):
        if place < many:
            return length, place
        place -= many
    raise TooMany(MOST_NUMBERS)


def row_at(machine, place):
    """The row that a machine takes with just so many ahead of it that it takes."""
    want_machine(machine)
    want_place(machine, place)
    shape = trimmed(shape_of(machine))
    length, left = length_at(counts_up_to(shape, MOST_NUMBERS), place)
    counts = counts_on(shape, length)
    state = 0
    row = []
    while len(row) < length:
        behind = counts[length - len(row) - 1]
        way = shape[0][state]
        for number in sorted(way):
            if left < behind[way[number]]:
                row.append(number)
                state = way[number]
                break
            left -= behind[way[number]]
    return tuple(row)


def want_short_row(machine, row):
    """BadWord unless a row of the machine, TooMany(200) if it has more than 200 numbers."""
    want_row(machine, row)
    if len(row) > MOST_NUMBERS:
        raise TooMany(MOST_NUMBERS)


def place_of(machine, row):
    """How many rows that a machine takes stand ahead of one, None if it does not take it."""
    want_machine(machine)
    want_short_row(machine, row)
    if state_behind(machine.ways, 0, row) not in machine.ends:
        return None
    shape = trimmed(shape_of(machine))
    counts = counts_on(shape, len(row))
    ahead = sum([counts[length][0] for length in range(len(row))])
    state = 0
    for at, number in enumerate(row):
        way = shape[0][state]
        behind = counts[len(row) - at - 1]
        ahead += sum([behind[way[other]] for other in way if other < number])
        state = way[number]
    return ahead


def mask_of(states):
    """The number whose digits to the base 2 tell which states are there."""
    mask = 0
    for state in states:
        mask |= 1 << state
    return mask


def mask_before(links, mask):
    """The mask of the states that lead to one of a mask, links being masks too."""
    found = 0
    for state, leads in enumerate(links):
        if leads & mask:
            found |= 1 << state
    return found


def row_through(ways, masks, state, length):
    """The least row of just so many numbers from a state through the masks to an end."""
    row = []
    for left in reversed(range(length)):
        way = ways[state]
        for number in sorted(way):
            if (masks[left] >> way[number]) & 1:
                row.append(number)
                state = way[number]
                break
    return tuple(row)


def path_of(ways, row):
    """The states that a row meets, from state 0 on, as far as it leads to some."""
    states = [0]
    for number in row:
        if number not in ways[states[-1]]:
            return states
        states.append(ways[states[-1]][number])
    return states


def next_of_length(ways, masks, row):
    """The least row behind one, and with as many numbers, that leads to an end, or None."""
    states = path_of(ways, row)
    for at in reversed(range(min(len(states), len(row)))):
        way = ways[states[at]]
        left = len(row) - at - 1
        for number in sorted(way):
            if number > row[at] and (masks[left] >> way[number]) & 1:
                return row[:at] + (number,) + row_through(ways, masks, way[number], left)
    return None


def next_longer(ways, links, masks, row):
    """The least row with more numbers than one that leads to an end, or None."""
    # A longer row, if there is any, needs no more further numbers than there are states.
    for length in range(len(row) + 1, len(row) + len(ways) + 1):
        masks.append(mask_before(links, masks[-1]))
        if masks[length] & 1:
            return row_through(ways, masks, 0, length)
    return None


def next_row(machine, row):
    """The least row that a machine takes and that a row stands ahead of, None if there is none."""
    want_machine(machine)
    want_short_row(machine, row)
    ways, ends = trimmed(shape_of(machine))
    links = [mask_of(list(way.values())) for way in ways]
    masks = [mask_of([state for state, end in enumerate(ends) if end])]
    for _ in range(len(row)):
        masks.append(mask_before(links, masks[-1]))
    found = next_of_length(ways, masks, row)
    return next_longer(ways, links, masks, row) if found is None else found
