"""Knots: states that lead to one another, and the sequence in which knots lead on."""

from gatewords.shapes import states_into


def finished_order(links):
    """All states, each one behind those to which it leads, but for those of its knot."""
    seen = [False] * len(links)
    order = []
    for start in range(len(links)):
        waiting = [] if seen[start] else [(start, 0)]
        seen[start] = True
        while waiting:
            state, at = waiting.pop()
            if at == len(links[state]):
                order.append(state)
                continue
            waiting.append((state, at + 1))
            to = links[state][at]
            if not seen[to]:
                seen[to] = True
                waiting.append((to, 0))
    return order


def knots_of(links):
    """The list of all knots, each one ahead of those to which it leads, and each state's place."""
    into = states_into(links)
    places = [None] * len(links)
    knots = []
    order = finished_order(links)
    for start in order[::-1]:
        if places[start] is not None:
            continue
        knot = []
        waiting = [start]
        places[start] = len(knots)
        while waiting:
            state = waiting.pop()
            knot.append(state)
            for before in into[state]:
                if places[before] is None:
                    places[before] = len(knots)
                    waiting.append(before)
        knots.append(knot)
    return knots, places
