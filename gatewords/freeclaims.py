"""Claims of free products."""

from gatewords.begun import begun_at
from gatewords.claims import Claim, want_claim
from gatewords.pairmakers import number_of, pairs_within, same_shape
from gatewords.products import free_product
from gatewords.shapes import least_shape, made, shape_of
from gatewords.standings import MOST_SETS, spread


def moved_ways(way, shift, start):
    """The ways of a state with each letter, and each state, so many places further."""
    return {letter + shift: to + start for letter, to in way.items()}


def free_words(many, one, other):
    """The shape of the words put together by turns, and for each state which side it ends.

    many is how many letters one has. State 0 is met by () alone. The sides are
    0 and 1, and None where what was read so far is not put together of words.
    """
    start = 1
    other_start = 1 + len(one[0])
    to_one = moved_ways(one[0][0], 0, start)
    to_other = moved_ways(other[0][0], many, other_start)
    ways = [{**to_one, **to_other}]
    sides = [None]
    for way, end in zip(one[0], one[1]):
        own = moved_ways(way, 0, start)
        ways.append({**own, **to_other} if end else own)
        sides.append(0 if end else None)
    for way, end in zip(other[0], other[1]):
        own = moved_ways(way, many, other_start)
        ways.append({**own, **to_one} if end else own)
        sides.append(1 if end else None)
    return ways, sides


def pairs_of_product(many, small, shift, near):
    """The shape of a near of a group of small letters, read as letters of a product."""
    names = [letter + shift for letter in range(small)] + [many]
    made_ways = []
    for way in near[0]:
        moved = {}
        for number, to in way.items():
            first, second = divmod(number, small + 1)
            moved[number_of(many, names[first], names[second])] = to
        made_ways.append(moved)
    return made_ways, near[1]


def free_near(many, words, fronts, near):
    """The shape of the pairs p + s and p + t, near pairing s with t, p leading to a front.

    A standing has a state of words, while p may still go on, and one of near,
    while s and t may; None where it may not.
    """
    ways = words[0]
    near_ways, near_ends = near

    def steps(standing):
        state, at = standing
        goals = {}
        if state is not None:
            for letter, to in ways[state].items():
                goals[number_of(many, letter, letter)] = (to, 0 if fronts[to] else None)
        if at is not None:
            for number, near_to in near_ways[at].items():
                goals[number] = (goals.get(number, (None, None))[0], near_to)
        return list(goals.items())

    standings, made_ways = spread((0, 0), steps, MOST_SETS)
    return made_ways, [at is not None and near_ends[at] for _, at in standings]


def with_no_letters(shape):
    """The shape that takes the row () too."""
    ways, ends = begun_at(shape[0], shape[1], 0)
    return ways, [True] + ends[1:]


def side_nears(many, words, fronts, shift, claim):
    """The machines of the letters of one side of a free product, of its claim."""
    small = len(claim.group.back)
    own = with_no_letters(least_shape(shape_of(claim.words)))
    nears = []
    for near in claim.nears[1:]:
        pairs = pairs_of_product(many, small, shift, pairs_within(small, shape_of(near), own))
        nears.append(made((many + 1) ** 2, free_near(many, words, fronts, pairs)))
    return nears


def claim_free(one, other):
    """The claim of the free product of the groups of two claims."""
    want_claim(one)
    want_claim(other)
    group = free_product(one.group, other.group)
    many = len(group.back)
    first = len(one.group.back)
    ways, sides = free_words(first, least_shape(shape_of(one.words)), least_shape(shape_of(other.words)))
    words = (ways, [True] + [side is not None for side in sides[1:]])
    nears = [made((many + 1) ** 2, same_shape(many, words))]
    for side, shift, claim in ((0, 0, one), (1, first, other)):
        # What goes ahead is () or ends with a letter of the other side.
        fronts = [True] + [ended == 1 - side for ended in sides[1:]]
        nears.extend(side_nears(many, words, fronts, shift, claim))
    return Claim(group, made(many, words), nears)
