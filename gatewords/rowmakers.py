"""Machines made of rows."""

from gatewords.errors import BadNumber, BadWord, TooMany
from gatewords.letters import is_list, is_number_in, is_row
from gatewords.machines import MOST_READ, MOST_STATES
from gatewords.shapes import made, machine_of, no_shape
from gatewords.standings import MOST_SETS


def want_number_of_letters(letters):
    """BadNumber("letters") unless a machine may read so many letters."""
    if not is_number_in(letters, 1, MOST_READ):
        raise BadNumber("letters")


def want_rows(letters, rows):
    """BadWord unless a list of rows of numbers below letters."""
    if not is_list(rows) or not all([is_row(letters, row) for row in rows]):
        raise BadWord("not a list of rows of these numbers")


def all_shape(letters):
    """The shape that takes all rows of numbers below letters, in its least form."""
    return [{number: 0 for number in range(letters)}], [True]


def no_rows(letters):
    """The machine that takes no row."""
    want_number_of_letters(letters)
    return machine_of(letters, no_shape())


def all_rows(letters):
    """The machine that takes all rows."""
    want_number_of_letters(letters)
    return machine_of(letters, all_shape(letters))


def tree_of(rows):
    """The shape with a state for each row with which one of the rows begins."""
    ways = [{}]
    ends = [False]
    for row in rows:
        state = 0
        for number in row:
            if number not in ways[state]:
                ways[state][number] = len(ways)
                ways.append({})
                ends.append(False)
            state = ways[state][number]
        ends[state] = True
    return ways, ends


def folded_tree(tree):
    """The shape of a tree with states from which the same rows lead to ends made one."""
    ways, ends = tree
    names = {}
    classes = [0] * len(ways)
    kept = []
    # States stand behind those that lead to them, so the last ones come first.
    for state in reversed(range(len(ways))):
        way = {number: classes[ways[state][number]] for number in sorted(ways[state])}
        name = (ends[state], tuple(way.items()))
        if name not in names:
            names[name] = len(names)
            kept.append((way, ends[state]))
        classes[state] = names[name]
    return begun_at_last([way for way, _ in kept], [end for _, end in kept])


def begun_at_last(ways, ends):
    """The shape that begins in the last state, its states in the opposite sequence."""
    last = len(ways) - 1
    turned = [{number: last - way[number] for number in way} for way in ways[::-1]]
    return turned, ends[::-1]


def just_rows(letters, rows):
    """The machine that takes just these rows."""
    want_number_of_letters(letters)
    want_rows(letters, rows)
    return made(letters, folded_tree(tree_of(rows)))


def led_goals(tree):
    """For each state of a tree its ways, and those of the longest end of its row in the tree.

    Numbers that are told nothing of lead to state 0. With them comes for each
    state whether one of the rows of the tree ends in it.
    """
    ways, whole = tree
    goals = [dict(way) for way in ways]
    found = list(whole)
    # rest tells for a state the longest end of its row, but itself, in the tree.
    rest = [0] * len(ways)
    order = [0]
    at = 0
    while at < len(order):
        state = order[at]
        for number, to in ways[state].items():
            rest[to] = goals[rest[state]].get(number, 0) if state else 0
            order.append(to)
        if state:
            goals[state] = {**goals[rest[state]], **ways[state]}
        found[state] = found[state] or found[rest[state]]
        at += 1
    return goals, found


def avoiding(letters, tree):
    """The shape that takes the rows in which no row of the tree stands."""
    goals, found = led_goals(tree)
    if found[0]:
        return no_shape()
    ways = []
    for state, way in enumerate(goals):
        leads = {} if found[state] else {number: way.get(number, 0) for number in range(letters)}
        ways.append({number: to for number, to in leads.items() if not found[to]})
    return ways, [not end for end in found]


def free_rows(letters, rows):
    """The machine that takes the rows in which none of these stands."""
    want_number_of_letters(letters)
    want_rows(letters, rows)
    tree = tree_of(rows)
    if len(tree[0]) > MOST_SETS:
        raise TooMany(MOST_STATES)
    return made(letters, avoiding(letters, tree))
