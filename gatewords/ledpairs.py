"""Pairs of words led beside one another by few differences, and claims made of them."""

from gatewords.claims import Claim
from gatewords.clearing import cleared
from gatewords.differences import MOST_DIFFERENCES, difference_behind
from gatewords.errors import BadSystem
from gatewords.groups import want_group
from gatewords.letters import is_list, is_row, rank, want_letters
from gatewords.pairmakers import GOING, ended_behind, number_of, pairs_within
from gatewords.shapes import least_shape, machine_of, made, shape_of
from gatewords.standings import spread, spread_many
from gatewords.systems import reduced_by, want_system

# How the second word stands beside the first one, as far as both were read: the
# same, ahead of it or behind it as tuples, or ended ahead of it.
SAME = 0
AHEAD = 1
BEHIND = 2
SHORTER = 3


def want_differences(system, words):
    """BadSystem("words") unless a list of at most 200 tuples of letters in their order, the first one ()."""
    many = len(system.back)
    if not is_list(words) or not 1 <= len(words) <= MOST_DIFFERENCES:
        raise BadSystem("words")
    if not all([is_row(many, word) for word in words]) or words[0] != ():
        raise BadSystem("words")
    if not all([rank(words[k]) < rank(words[k + 1]) for k in range(len(words) - 1)]):
        raise BadSystem("words")


def leads_of(system, words):
    """For each of the words the dict that tells for numbers of pair rows the place of the difference behind."""
    many = len(system.back)
    places = {word: place for place, word in enumerate(words)}
    found = []
    for word in words:
        way = {}
        for first in range(many + 1):
            for second in range(many + 1):
                if first < many or second < many:
                    behind = difference_behind(system, word, first, second)
                    if behind in places:
                        way[number_of(many, first, second)] = places[behind]
        found.append(way)
    return found


def led_shapes(many, leads):
    """The places of differences of all standings, and the ways between these, of pair rows alone."""

    def steps(standing):
        at, ended = standing
        found = []
        for number, to in leads[at].items():
            behind = ended_behind(many, ended, number)
            if behind is not None:
                found.append((number, (to, behind)))
        return found

    standings, ways = spread((0, GOING), steps, None)
    return [at for at, _ in standings], ways


def with_goal(words, told, goal):
    """The shape of the pair rows, as led_shapes tells them, whose last difference is the goal."""
    places, ways = told
    return ways, [words[at] == goal for at in places]


def led_pairs(system, words, goal):
    """The machine of the pairs of words whose differences are in words, the last one being the goal."""
    want_system(system)
    want_differences(system, words)
    want_letters(system.back, goal)
    many = len(system.back)
    told = led_shapes(many, leads_of(system, words))
    return made((many + 1) ** 2, with_goal(words, told, goal))


def standing_of_other(many, standing, first, second):
    """How the second word stands beside the first one behind one more letter of each."""
    if second == many:
        return SHORTER
    if standing != SAME or first == second:
        return standing
    return AHEAD if second < first else BEHIND


def passed_shape(many, leads):
    """The shape of the words for which one ahead of them is led to the difference ()."""

    def steps(standing):
        at, other = standing
        found = []
        for number, to in leads[at].items():
            first, second = divmod(number, many + 1)
            # The first word goes on to the end, and the second one, once ended, does not.
            if first < many and (other != SHORTER or second == many):
                found.append((first, (to, standing_of_other(many, other, first, second))))
        return found

    standings, ways = spread_many((0, SAME), steps, None)
    return ways, [at == 0 and other in (AHEAD, SHORTER) for at, other in standings]


def unled_machine(system, leads):
    """The machine of the words in which no word stands for which one ahead of it is led to ()."""
    many = len(system.back)
    ways, ends = passed_shape(many, leads)
    return made(many, cleared(many, ways, ends))


def unled_words(system, words):
    """The machine of the words in which none stands that is led to the difference () from one ahead of it."""
    want_system(system)
    want_differences(system, words)
    return unled_machine(system, leads_of(system, words))


def claim_told(group, system, words):
    """The Claim that differences make, which are as they should be."""
    many = len(system.back)
    leads = leads_of(system, words)
    unled = unled_machine(system, leads)
    told = led_shapes(many, leads)
    shape = shape_of(unled)
    goals = [()] + [reduced_by(system, (letter,)) for letter in range(many)]
    nears = []
    for goal in goals:
        near = least_shape(with_goal(words, told, goal))
        nears.append(machine_of((many + 1) ** 2, pairs_within(many, near, shape)))
    return Claim(group, unled, nears)


def claim_of(group, system, words):
    """The Claim of a group whose nears pair what differences lead, of words that none ahead is led to."""
    want_group(group)
    want_system(system)
    if system.back != group.back:
        raise BadSystem("back")
    want_differences(system, words)
    return claim_told(group, system, words)
