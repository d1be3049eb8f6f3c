"""Least forms of machines, and papers that show that no machine is smaller."""

from gatewords.letters import is_list, is_pair, is_row
from gatewords.machines import state_behind, want_machine
from gatewords.shapes import least_shape, made, shape_of, ways_into


def least_form(machine):
    """The least machine that takes the same rows, its states as they are first met."""
    want_machine(machine)
    return made(machine.letters, shape_of(machine))


def is_least_form(machine):
    """Whether a machine is its own least form."""
    want_machine(machine)
    return machine == made(machine.letters, shape_of(machine))


def are_rows(many, thing):
    """Whether any value is a list of rows of numbers below many."""
    return is_list(thing) and all([is_row(many, row) for row in thing])


def states_taken(ways, taken, number):
    """For each state whether a number leads it to one of those that are taken."""
    found = []
    for way in ways:
        to = way[number]
        found.append(to is not None and taken[to])
    return found


def taken_by_behinds(machine, behinds):
    """For each row of behinds the list that tells for each state whether it leads to an end."""
    ends = {end: True for end in machine.ends}
    known = {(): [state in ends for state in range(len(machine.ways))]}
    places = {(): 0}
    told = []
    for row in behinds:
        # Rows with the same end share its work: a row of a paper is often one
        # number and another row. Each end of a row gets a short name of its own.
        name = ()
        for number in row[::-1]:
            longer = (places[name], number)
            if longer not in known:
                places[longer] = len(places)
                known[longer] = states_taken(machine.ways, known[name], number)
            name = longer
        told.append(known[name])
    return told


def is_state_paper(machine, thing):
    """Whether any value is a state paper of a machine."""
    want_machine(machine)
    if not is_pair(thing) or not all([are_rows(machine.letters, rows) for rows in thing]):
        return False
    fronts, behinds = thing
    states = [state_behind(machine.ways, 0, front) for front in fronts]
    if None in states:
        return False
    told = taken_by_behinds(machine, behinds)
    marks = [tuple([taken[state] for taken in told]) for state in states]
    return all([any(mark) for mark in marks]) and len(set(marks)) == len(marks)


def least_fronts(ways):
    """The least row to each state of a least form, in their sequence."""
    fronts = [()]
    for state, way in enumerate(ways):
        for number in sorted(way):
            if way[number] == len(fronts):
                fronts.append(fronts[state] + (number,))
    return fronts


def split_by(classes, sizes, states):
    """Give the states a class of their own wherever they are a part of one; whether any was."""
    hit = {}
    for state in states:
        hit.setdefault(classes[state], []).append(state)
    parted = [hit[name] for name in hit if len(hit[name]) < sizes[name]]
    for part in parted:
        sizes[classes[part[0]]] -= len(part)
        for state in part:
            classes[state] = len(sizes)
        sizes.append(len(part))
    return bool(parted)


def telling_rows(letters, shape):
    """Rows that tell apart all states of a least form, and each one from nowhere."""
    ways, ends = shape
    into = ways_into(ways)
    # One state more stands for nowhere, from which no row is taken.
    classes = [0] * (len(ways) + 1)
    sizes = [len(classes)]
    taken = [[state for state, end in enumerate(ends) if end]]
    rows = [()]
    split_by(classes, sizes, taken[0])
    at = 0
    while at < len(rows) and len(sizes) < len(classes):
        for number in range(letters):
            states = [state for to in taken[at] for state in into[to].get(number, [])]
            if split_by(classes, sizes, states):
                rows.append((number,) + rows[at])
                taken.append(states)
        at += 1
    return rows


def state_paper(machine):
    """A state paper with the least row to each state of the least form."""
    want_machine(machine)
    ways, ends = least_shape(shape_of(machine))
    if not any(ends):
        return ([], [])
    return (least_fronts(ways), telling_rows(machine.letters, (ways, ends)))
