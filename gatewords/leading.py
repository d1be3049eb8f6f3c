"""Normal words led on by letters, as the nears of a claim without fault tell.

A table is made of a near; it gives for each state and each first letter the
pairs of a second letter and a state. The number of letters stands for no letter.
"""

from gatewords.projections import ways_by_first
from gatewords.shapes import shape_of, trimmed


def table_of(many, near):
    """The ways of a near by first letters, and its ends."""
    ways, ends = trimmed(shape_of(near))
    return ways_by_first(many, ways), ends


def tables_of(claim):
    """The tables of the letters of a claim."""
    many = len(claim.group.back)
    return [table_of(many, near) for near in claim.nears[1:]]


def new_rows(tables):
    """For each table the rows of states met, of no letters as yet.

    Row k tells for each state met by k letters the state ahead of it, the
    second letter, and whether both words are the same up to there.
    """
    return [[{0: (None, None, True)}] for _ in tables]


def read_on(table, rows, word):
    """Put the rows of the further letters of a word behind those that are there."""
    ways = table[0]
    for at in range(len(rows) - 1, len(word)):
        first = word[at]
        before = rows[at]
        row = {}
        for state in before:
            same = before[state][2]
            for second, to in ways[state].get(first, []):
                row.setdefault(to, (state, second, same and second == first))
        rows.append(row)


def tail_of(many, table, states):
    """Of some states the one that letters of the second word alone lead to an end, and these."""
    ways, ends = table
    came = {state: (None, None) for state in states}
    order = list(states)
    at = 0
    while not ends[order[at]]:
        for second, to in ways[order[at]].get(many, []):
            if to not in came:
                came[to] = (order[at], second)
                order.append(to)
        at += 1
    state = order[at]
    tail = []
    while came[state][0] is not None:
        state, second = came[state]
        tail.append(second)
    return state, tail[::-1]


def letters_beside(many, rows, state):
    """With how many letters both words begin alike, and the further ones of the second word."""
    at = len(rows) - 1
    before, second, same = rows[at][state]
    letters = []
    while not same:
        if second < many:
            letters.append(second)
        at -= 1
        before, second, same = rows[at][before]
    return at, letters[::-1]


def lead_on(many, tables, all_rows_met, word, letter):
    """Lead a word, a list that is changed, on by one letter.

    Words led on often begin as they did, so rows of states met are kept as far
    as this goes.
    """
    rows = all_rows_met[letter]
    read_on(tables[letter], rows, word)
    state, tail = tail_of(many, tables[letter], list(rows[-1]))
    alike, letters = letters_beside(many, rows, state)
    del word[alike:]
    word.extend(letters + tail)
    for k in range(len(tables)):
        del all_rows_met[k][alike + 1:]


def led_along(tables, start, word):
    """The normal word to which the letters of a word lead a normal word."""
    many = len(tables)
    rows = new_rows(tables)
    here = list(start)
    for letter in word:
        lead_on(many, tables, rows, here, letter)
    return tuple(here)


def trail_along(tables, word):
    """The normal words to which the beginnings of a word lead ()."""
    many = len(tables)
    rows = new_rows(tables)
    here = []
    found = [()]
    for letter in word:
        lead_on(many, tables, rows, here, letter)
        found.append(tuple(here))
    return found
