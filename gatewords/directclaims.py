"""Claims of direct products."""

from gatewords.claims import Claim, want_claim
from gatewords.freeclaims import moved_ways, pairs_of_product
from gatewords.pairmakers import FIRST_ENDED, GOING, SECOND_ENDED, number_of, pairs_within, same_shape
from gatewords.products import direct_product
from gatewords.shapes import least_shape, made, shape_of
from gatewords.standings import MOST_SETS, spread


def behind_each(shape, other):
    """The shape of the rows of one, each with one of other behind it, of unlike numbers."""
    ways, ends = shape
    start = len(ways)
    to_other = moved_ways(other[0][0], 0, start)
    made_ways = [{**way, **to_other} if end else dict(way) for way, end in zip(ways, ends)]
    made_ways.extend([moved_ways(way, 0, start) for way in other[0]])
    return made_ways, [end and other[1][0] for end in ends] + other[1]


def rest_steps(many, rest, state):
    """The pairs of the next letter of a word of rest and a state, with those of its end.

    The letter many and the state None stand for the end and for no more letters.
    """
    found = [] if state is None else list(rest[0][state].items())
    if state is None or rest[1][state]:
        found.append((many, None))
    return found


def held_on(many, held, letter):
    """The letters that are held back, with one more if it is one."""
    return held if letter == many else held + (letter,)


def number_from(many, ended, letter, held_back):
    """The number of a letter of the word that is ahead and of one of the other word."""
    if ended == FIRST_ENDED:
        return number_of(many, letter, held_back)
    return number_of(many, held_back, letter)


def steps_in_near(many, near, rest, standing):
    """The steps by which near goes on, letters behind the word that ended first being held back."""
    at, _, state, held = standing
    found = []
    for number, to in near[0][at].items():
        first, second = divmod(number, many + 1)
        if first < many and second < many:
            found.append((number, (to, GOING, state, held)))
            continue
        ended = FIRST_ENDED if first == many else SECOND_ENDED
        for letter, behind in rest_steps(many, rest, state):
            step = number_from(many, ended, letter, second if first == many else first)
            found.append((step, (to, ended, behind, held_on(many, held, letter))))
    return found


def steps_behind_near(many, rest, standing):
    """The steps by which both words end alike, one of them later by what is held back."""
    _, ended, state, held = standing
    found = []
    for letter, behind in rest_steps(many, rest, state):
        if ended == GOING and letter < many:
            found.append((number_of(many, letter, letter), (None, GOING, behind, ())))
        if ended != GOING and held:
            step = number_from(many, ended, letter, held[0])
            found.append((step, (None, ended, behind, held_on(many, held, letter)[1:])))
    return found


def carried_near(many, near, rest):
    """The shape of the pairs s + w and t + w, near pairing s with t, rest taking w.

    A standing has a state of near (None behind s and t), which word is ended
    first, a state of rest (None behind w) and the letters of w that were read
    of one word and not of the other one yet. Of least forms two standings are
    never alike but for the end of near, so what is more than all that are let
    has too many states in its least form, too.
    """
    near_ends = near[1]

    def steps(standing):
        at = standing[0]
        found = [] if at is None else steps_in_near(many, near, rest, standing)
        if at is None or near_ends[at]:
            found = found + steps_behind_near(many, rest, standing)
        return found

    standings, ways = spread((0, GOING, 0, ()), steps, MOST_SETS)
    taken = []
    for at, _, state, held in standings:
        near_ended = at is None or near_ends[at]
        taken.append(near_ended and held == () and (state is None or rest[1][state]))
    return ways, taken


def claim_direct(one, other):
    """The claim of the direct product of the groups of two claims."""
    want_claim(one)
    want_claim(other)
    group = direct_product(one.group, other.group)
    many = len(group.back)
    first = len(one.group.back)
    own = least_shape(shape_of(one.words))
    other_own = least_shape(shape_of(other.words))
    rest = ([moved_ways(way, first, 0) for way in other_own[0]], other_own[1])
    words = behind_each(own, rest)
    nears = [made((many + 1) ** 2, same_shape(many, words))]
    for near in one.nears[1:]:
        pairs = pairs_of_product(many, first, 0, pairs_within(first, shape_of(near), own))
        nears.append(made((many + 1) ** 2, carried_near(many, pairs, rest)))
    for near in other.nears[1:]:
        within = pairs_within(len(other.group.back), shape_of(near), other_own)
        pairs = pairs_of_product(many, len(other.group.back), first, within)
        nears.append(made((many + 1) ** 2, behind_each(same_shape(many, own), pairs)))
    return Claim(group, made(many, words), nears)
