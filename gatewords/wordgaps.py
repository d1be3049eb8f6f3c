"""Gaps between words read side by side, as normal words, and the nears that some gaps make.

A gap is the normal word of what undoes the one word, a word between both, and
the other one, as far as they are read.
"""

from gatewords.distances import words_led_to
from gatewords.errors import TooMany
from gatewords.leading import led_along
from gatewords.pairmakers import steps_of_both
from gatewords.pairs import row_of_pair
from gatewords.rowasking import row_met
from gatewords.shapes import least_shape
from gatewords.shortness import longer_told
from gatewords.standings import MOST_SETS, spread

MOST_FAR = 8
MOST_GAPS = 3000
MOST_MISSED = 60
MOST_PATHS = 6


class Gaps:
    """The gaps of a Steady that were met, and how letters of both words lead from one to another."""

    def __init__(self, steady, first):
        self.steady = steady
        self.first = first
        # Where normal words are as short as any their letters tell the distances.
        self.is_short = longer_told(steady) is None
        self.known = {(): 0}
        self.level = [()]
        self.met = {}
        self.leads = {}

    def widen(self):
        """Know the distances of the normal words one step further away."""
        far = self.known[self.level[0]] + 1
        self.level = words_led_to(self.steady, self.known, self.level, far)
        if len(self.known) > MOST_GAPS:
            raise TooMany(MOST_GAPS)

    def far(self, gap):
        """The distance of a gap; TooMany if it is too far from ()."""
        if self.is_short:
            far = len(gap)
        else:
            while gap not in self.known and self.level and self.known[self.level[0]] < MOST_FAR:
                self.widen()
            far = self.known.get(gap, MOST_FAR + 1)
        if far > MOST_FAR:
            raise TooMany(MOST_FAR)
        return far

    def put(self, gap):
        """Meet a gap."""
        self.met[gap] = True
        if len(self.met) > MOST_GAPS:
            raise TooMany(MOST_GAPS)

    def behind(self, gap, first, second):
        """The gap behind one more letter of each word; the number of letters stands for none."""
        name = (gap, first, second)
        if name not in self.leads:
            back = self.steady.claim.group.back
            many = len(back)
            ahead = (back[first],) if first < many else ()
            further = (second,) if second < many else ()
            self.leads[name] = led_along(self.steady.tables, (), ahead + gap + further)
        return self.leads[name]

    def path(self, one, other):
        """All gaps of two words read side by side, each once, and the greatest of their distances."""
        many = len(self.steady.claim.group.back)
        gap = self.first
        found = {gap: self.far(gap)}
        for number in row_of_pair(many, one, other):
            first, second = divmod(number, many + 1)
            gap = self.behind(gap, first, second)
            found[gap] = self.far(gap)
        return max(list(found.values())), list(found)


def put_paths(gaps, pairs):
    """Meet the gaps of some pairs of words of which some gap was not met; TooMany where none is new.

    Those that go farthest are met first, so that what goes too far is seen soon.
    """
    before = len(gaps.met)
    paths = [gaps.path(one, other) for one, other in pairs]
    for _, path in sorted(paths, key=lambda told: -told[0])[:MOST_PATHS]:
        for gap in path:
            gaps.put(gap)
    # No more is to be met only where the machines tell no group.
    if len(gaps.met) == before:
        raise TooMany(MOST_FAR)


def gaps_shape(gaps, one, other, uneven):
    """The shape, in its least form, of the pairs of words with gaps that were met, the last one ().

    one and other are the shapes of the words; uneven tells whether one of two
    words may end ahead of the other one.
    """
    many = len(gaps.steady.claim.group.back)

    def steps(standing):
        found = []
        pairs = steps_of_both(many, one, other, standing[:2])
        for number, to in pairs:
            first, second = divmod(number, many + 1)
            if uneven or (first < many and second < many):
                gap = gaps.behind(standing[2], first, second)
                if gap in gaps.met:
                    found.append((number, to + (gap,)))
        return found

    standings, ways = spread((0, 0, gaps.first), steps, MOST_SETS)
    taken = []
    for state, other_state, gap in standings:
        ended = gap == () and (state is None or one[1][state])
        taken.append(ended and (other_state is None or other[1][other_state]))
    return least_shape((ways, taken))


def is_missed(one, other, standing):
    """Whether one shape ends in a standing of two and the other one does not."""
    state, other_state = standing
    return one[1][state] and (other_state is None or not other[1][other_state])


def rows_missed(letters, one, other):
    """Some rows that one shape takes and another one does not, none if there are none.

    Those found last come from far away, and are most likely to tell what is new.
    """
    met = {(0, 0): True}
    order = [(0, 0)]
    came = [0]
    found = []
    at = 0
    while at < len(order):
        state, other_state = order[at]
        way = one[0][state]
        for number in sorted(way):
            other_to = None if other_state is None else other[0][other_state].get(number)
            to = (way[number], other_to)
            if is_missed(one, other, to):
                found.append((at, number))
            if to not in met:
                met[to] = True
                order.append(to)
                came.append(at * letters + number)
        at += 1
    first = [()] if is_missed(one, other, (0, 0)) else []
    return first + [row_met(letters, came, place) + (number,) for place, number in found[-MOST_MISSED:]]
