"""The least row that leads, over standings met one by one, to what is looked for."""


def row_of_group(came, at):
    """The row by which a group of standings was met."""
    row = []
    while at:
        at, number = came[at]
        row.append(number)
    return tuple(row[::-1])


def groups_on(steps, group, met):
    """The groups of standings not met yet to which numbers lead a group, by ascending numbers."""
    goals = {}
    for standing in group:
        here = steps(standing)
        for number, to in here:
            if to not in met:
                goals.setdefault(number, {})[to] = True
    found = []
    for number in sorted(goals):
        new = [to for to in goals[number] if to not in met]
        for to in new:
            met[to] = True
        if new:
            found.append((number, new))
    return found


def least_row(first, steps, is_end):
    """The least row that leads, in some way, from a standing to an end, None if there is none.

    The standings of one group are met by the same least row; the groups come in
    the order of these rows, since the least row to a standing goes on from the
    least row to the standing ahead of it.
    """
    met = {first: True}
    groups = [[first]]
    came = [None]
    at = 0
    while at < len(groups):
        if any([is_end(standing) for standing in groups[at]]):
            return row_of_group(came, at)
        further = groups_on(steps, groups[at], met)
        for number, group in further:
            groups.append(group)
            came.append((at, number))
        at += 1
    return None
