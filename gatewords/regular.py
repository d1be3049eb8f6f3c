"""Whether the machines of a Steady tell a group by themselves, and which."""

from gatewords.alongs import Leads
from gatewords.errors import NoGroup, TooMany
from gatewords.faults import is_normal
from gatewords.groups import MOST_RULES, MOST_SIDE, Group
from gatewords.leading import led_along
from gatewords.letters import is_row, turned_back
from gatewords.loops import fronts_of, letters_of, loops_of, raw_loops, ring_of
from gatewords.pairs import pair_of_row
from gatewords.rowgrowth import row_between
from gatewords.shapes import live_states, shape_of
from gatewords.steadies import want_steady


def is_moved(steady, thing):
    """Whether any value is a pair of a word that leads () back and a normal word that it leads elsewhere."""
    want_steady(steady)
    if not isinstance(thing, tuple) or len(thing) != 2:
        return False
    word, start = thing
    if not is_row(len(steady.claim.group.back), word) or not is_normal(steady.claim, start):
        return False
    if led_along(steady.tables, (), word) != ():
        return False
    return led_along(steady.tables, start, word) != start


def first_round(steady):
    """A word that leads round by a way or an end, as raw_loops tells it, and leads some word elsewhere.

    With it comes such a word; None if there is none.
    """
    leads = Leads(steady)
    back = steady.claim.group.back
    known = {}
    for told in raw_loops(steady.claim):
        ring = ring_of(back, told[0])
        if ring in known:
            continue
        known[ring] = True
        start = leads.apart(told[0], ())
        if start is not None:
            return told, start
    return None


def words_to(claim, letter, state):
    """The pair of words by whose least row a state of the near of a letter is met."""
    ways, ends = shape_of(claim.nears[letter + 1])
    return pair_of_row(len(claim.group.back), fronts_of(ways, live_states(ways, ends))[state])


def words_from(claim, letter, state):
    """The pair of words by whose least row a state of the near of a letter leads to an end."""
    ways, ends = shape_of(claim.nears[letter + 1])
    live = live_states(ways, ends)
    kept = [{number: to for number, to in way.items() if live[to]} for way in ways]
    goals = {place: True for place, end in enumerate(ends) if end}
    return pair_of_row(len(claim.group.back), row_between(kept, state, goals))


def round_by(back, one, letter, other):
    """The word that leads () by one and the letter to other, and back to ()."""
    return one + (letter,) + turned_back(back, other)


def moved_by_way(steady, told, start):
    """What moved tells where the word round by a way leads start elsewhere.

    A way leads from one state to another one. Through it, and by the least row
    to the state behind it, two pairs of normal words are met that go on alike.
    Each of both pairs makes a word that leads () to itself. If both led start
    to itself, so would the word round.
    """
    claim = steady.claim
    back = claim.group.back
    _, letter, state, number = told
    first, second = letters_of(len(back), number)
    one, other = words_to(claim, letter, state)
    behind = shape_of(claim.nears[letter + 1])[0][state][number]
    direct, other_direct = words_to(claim, letter, behind)
    rest, other_rest = words_from(claim, letter, behind)
    pairs = [(one + first, other + second), (direct, other_direct)]
    for front, other_front in pairs:
        word = round_by(back, front + rest, letter, other_front + other_rest)
        begin = led_along(steady.tables, start, turned_back(back, front))
        if led_along(steady.tables, begin, word) != begin:
            return (word, begin)
    return None


def moved_by_end(steady, told, start):
    """What moved tells where the word round by an end leads start elsewhere."""
    back = steady.claim.group.back
    _, letter, state, _ = told
    one, other = words_to(steady.claim, letter, state)
    word = round_by(back, one, letter, other)
    # The gap leads start to where its letter does not; both words of the gap are met from here.
    begin = led_along(steady.tables, start, turned_back(back, one))
    return (word, begin)


def moved_told(steady):
    """A word that leads () to itself, and a normal word that it leads elsewhere, None if there is none."""
    found = first_round(steady)
    if found is None:
        return None
    told, start = found
    if led_along(steady.tables, (), told[0]) == ():
        return (told[0], start)
    if told[3] is None:
        return moved_by_end(steady, told, start)
    return moved_by_way(steady, told, start)


def moved(steady):
    """A word that leads () to itself, and a normal word that it leads elsewhere, None if there is none."""
    want_steady(steady)
    return moved_told(steady)


def told_group(steady):
    """The group of the loops of machines that tell one."""
    want_steady(steady)
    if first_round(steady) is not None:
        raise NoGroup("the machines tell no group")
    words = loops_of(steady.claim)
    if len(words) > MOST_RULES or any([len(word) > MOST_SIDE for word in words]):
        raise TooMany(MOST_RULES)
    return Group(steady.claim.group.back, [(word, ()) for word in words])
