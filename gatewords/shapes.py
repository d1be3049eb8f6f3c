"""Shapes, of which machines are made.

A shape is a pair (ways, ends): ways has for each state a dict that tells for
numbers the state to which they lead, ends has for each state whether it is an
end. It begins in state 0. Unlike a Machine it may have any number of states.
"""

from gatewords.errors import TooMany
from gatewords.machines import MOST_STATES, Machine


def shape_of(machine):
    """The shape of a machine."""
    ways = []
    for way in machine.ways:
        ways.append({number: to for number, to in enumerate(way) if to is not None})
    ends = [False] * len(ways)
    for end in machine.ends:
        ends[end] = True
    return ways, ends


def machine_of(letters, shape):
    """The Machine of a shape, reading numbers below letters."""
    ways, ends = shape
    if len(ways) > MOST_STATES:
        raise TooMany(MOST_STATES)
    rows = [[way.get(number) for number in range(letters)] for way in ways]
    return Machine(letters, rows, [state for state, end in enumerate(ends) if end])


def no_shape():
    """The shape that takes nothing, in its least form."""
    return [{}], [False]


def met_states(ways):
    """The states to which rows lead, as they are first met from state 0."""
    met = {0: True}
    order = [0]
    at = 0
    while at < len(order):
        way = ways[order[at]]
        for number in sorted(way):
            if way[number] not in met:
                met[way[number]] = True
                order.append(way[number])
        at += 1
    return order


def states_into(links):
    """For each state the list of those that lead to it, links telling where each leads."""
    into = [[] for _ in links]
    for state, leads in enumerate(links):
        for to in leads:
            into[to].append(state)
    return into


def states_before(links, marks):
    """For each state whether links lead from it to a marked one."""
    into = states_into(links)
    found = [bool(mark) for mark in marks]
    waiting = [state for state, mark in enumerate(found) if mark]
    while waiting:
        for state in into[waiting.pop()]:
            if not found[state]:
                found[state] = True
                waiting.append(state)
    return found


def live_states(ways, ends):
    """For each state whether some row leads from it to an end."""
    return states_before([list(way.values()) for way in ways], ends)


def kept_states(shape, states):
    """The shape of these states alone, in this sequence, the first one being state 0."""
    ways, ends = shape
    places = {state: place for place, state in enumerate(states)}
    fewer = []
    for state in states:
        way = ways[state]
        fewer.append({number: places[way[number]] for number in way if way[number] in places})
    return fewer, [ends[state] for state in states]


def trimmed(shape):
    """The shape without states that no row meets, or from which none leads to an end."""
    ways, ends = shape
    live = live_states(ways, ends)
    if not live[0]:
        return no_shape()
    return kept_states(shape, [state for state in met_states(ways) if live[state]])


def ways_into(ways):
    """For each state a dict that tells for numbers the list of states led to it by them."""
    into = [{} for _ in ways]
    for state, way in enumerate(ways):
        for number in way:
            into[way[number]].setdefault(number, []).append(state)
    return into


def first_classes(ways, ends):
    """The class of each state, states of one class being ends alike and reading alike."""
    names = {}
    classes = []
    for state, way in enumerate(ways):
        name = (ends[state], tuple(sorted(way)))
        classes.append(names.setdefault(name, len(names)))
    return classes


def members_of(classes):
    """For each class the dict of the states in it."""
    members = [{} for _ in range(max(classes) + 1)]
    for state, name in enumerate(classes):
        members[name][state] = True
    return members


def split_off(classes, members, hit):
    """Make the smaller part of each class that is hit in part a new class; the new ones."""
    made = []
    for name in hit:
        part = hit[name]
        whole = members[name]
        if len(part) == len(whole):
            continue
        if 2 * len(part) > len(whole):
            inside = {state: True for state in part}
            part = [state for state in whole if state not in inside]
        for state in part:
            del whole[state]
            classes[state] = len(members)
        made.append(len(members))
        members.append({state: True for state in part})
    return made


def sources_of(into, states):
    """For each number the lists of states that it leads to one of the states."""
    sources = {}
    for state in states:
        for number in into[state]:
            sources.setdefault(number, []).append(into[state][number])
    return sources


def split_classes(ways, ends):
    """The class of each state, states of one class having the same rows to ends.

    This is Hopcroft's way: of a class that was split only the smaller part
    is looked at again, since the other part then tells nothing new.
    """
    into = ways_into(ways)
    classes = first_classes(ways, ends)
    members = members_of(classes)
    waiting = list(range(len(members)))
    while waiting:
        sources = sources_of(into, list(members[waiting.pop()]))
        for number in sources:
            hit = {}
            for states in sources[number]:
                for state in states:
                    hit.setdefault(classes[state], []).append(state)
            waiting.extend(split_off(classes, members, hit))
    return classes


def least_shape(shape):
    """The least form of a shape, its states numbered as they are first met."""
    ways, ends = trimmed(shape)
    classes = split_classes(ways, ends)
    first = {}
    for state, name in enumerate(classes):
        first.setdefault(name, state)
    places = {classes[0]: 0}
    order = [0]
    fewer = []
    at = 0
    while at < len(order):
        way = ways[order[at]]
        for number in sorted(way):
            name = classes[way[number]]
            if name not in places:
                places[name] = len(order)
                order.append(first[name])
        fewer.append({number: places[classes[way[number]]] for number in sorted(way)})
        at += 1
    return fewer, [ends[state] for state in order]


def made(letters, shape):
    """The Machine in its least form that takes what the shape takes."""
    return machine_of(letters, least_shape(shape))
