"""Guides, which pair all shortest words with their normal words."""

from gatewords.composing import ways_by_second
from gatewords.errors import NotShort
from gatewords.machines import want_machine
from gatewords.pairmakers import number_of, pairs_alone, want_near
from gatewords.pairs import pair_of_row
from gatewords.projections import ways_by_first
from gatewords.rowmakers import all_shape
from gatewords.shapes import least_shape, machine_of, shape_of
from gatewords.shortness import longer_told
from gatewords.standings import determined, spread_many
from gatewords.steadies import want_steady
from gatewords.wordgaps import Gaps, gaps_shape, put_paths, rows_missed

DONE = -1


def want_short(steady):
    """NotShort unless normal words are as short as any."""
    if longer_told(steady) is not None:
        raise NotShort("normal words are not as short as can be")


def one_longer(claim, shape):
    """The shape, in its least form, that a guide has if it has this one: () with (), and pairs one longer.

    Each pair of the shape becomes longer by a letter of the first word, where
    this leads the second word to one that is longer by one letter, too. A
    standing has the letter, a state of the shape and one of the letter's near.
    """
    many = len(claim.group.back)
    by_second = ways_by_second(many, shape[0])
    nears = [least_shape(shape_of(near)) for near in claim.nears[1:]]
    tables = [ways_by_first(many, near[0]) for near in nears]
    start = (DONE, 0, 0)
    end = (DONE, 1, 0)

    def steps_of(letter, state, near_state):
        found = []
        further = tables[letter][near_state]
        for middle, pairs in by_second[state].items():
            for first, to in pairs:
                for second, near_to in further.get(middle, []):
                    if second < many:
                        found.append((number_of(many, first, second), (letter, to, near_to)))
        if shape[1][state]:
            for second, near_to in further.get(many, []):
                if nears[letter][1][near_to]:
                    found.append((number_of(many, letter, second), end))
        return found

    def steps(standing):
        if standing == end:
            return []
        if standing != start:
            return steps_of(standing[0], standing[1], standing[2])
        found = []
        for letter in range(many):
            found.extend(steps_of(letter, 0, 0))
        return found

    standings, ways = spread_many(start, steps, None)
    return least_shape(determined(ways, [standing[0] == DONE for standing in standings]))


def is_guide(steady, near):
    """Whether a near pairs just each shortest word with its normal word, and no others."""
    want_steady(steady)
    want_machine(near)
    back = steady.claim.group.back
    want_near(back, near)
    want_short(steady)
    shape = least_shape(pairs_alone(len(back), shape_of(near)))
    # Each pair but () with () comes of a shorter one, so nothing else has this shape.
    return shape == one_longer(steady.claim, shape)


def guide_of(steady):
    """The near that pairs just each shortest word with its normal word."""
    want_steady(steady)
    want_short(steady)
    claim = steady.claim
    many = len(claim.group.back)
    letters = (many + 1) ** 2
    words = least_shape(shape_of(claim.words))
    gaps = Gaps(steady, ())
    gaps.put(())
    while True:
        shape = gaps_shape(gaps, all_shape(many), words, False)
        missed = rows_missed(letters, one_longer(claim, shape), shape)
        if not missed:
            return machine_of(letters, shape)
        put_paths(gaps, [pair_of_row(many, row) for row in missed])
