"""Chains of links, each of which leads words on, read letter by letter all at once.

A link is a table of first letters, as leading tells it, and its ends. Read all
at once, links of a chain let few letters of the words between them, where the
machine of the whole chain would have to know many.
"""

from gatewords.composing import composed_on_the_way
from gatewords.projections import ways_by_first
from gatewords.shapes import least_shape, shape_of
from gatewords.standings import SILENT, determined, spread_many

MOST_IN_LINK = 4
MOST_CHAINED = 100000


def link_of(many, shape):
    """The link of a shape in its least form."""
    return ways_by_first(many, shape[0]), shape[1]


def links_of_nears(many, nears):
    """The links of nears that lead on one after another, a few of them put together in each."""
    links = []
    for start in range(0, len(nears), MOST_IN_LINK):
        shape = least_shape(shape_of(nears[start]))
        for near in nears[start + 1:start + MOST_IN_LINK]:
            shape = composed_on_the_way(many, shape, least_shape(shape_of(near)))
        links.append(link_of(many, shape))
    return links


def further_letters(many, link, state, letter):
    """The pairs of a second letter and a state to which a first letter leads a link.

    None is the state of a link of which both words have ended; the number of
    letters stands for no letter.
    """
    if state is None:
        return [(many, None)] if letter == many else []
    found = link[0][state].get(letter, [])
    return found + [(many, None)] if letter == many and link[1][state] else found


def led_by_links(many, links, states, letter):
    """The pairs of a last letter and the tuple of states behind to which a letter leads a chain."""
    found = [(letter, ())]
    for link, state in zip(links, states):
        further = []
        for here, behind in found:
            for second, to in further_letters(many, link, state, here):
                further.append((second, behind + (to,)))
        found = further
    return found


def have_ended(links, states):
    """Whether all words of a chain may end."""
    return all([state is None or link[1][state] for link, state in zip(links, states)])


def chain_shape(many, links, other_links):
    """The shape that takes the words that two chains lead to the same word."""

    def steps(standing):
        found = []
        for letter in range(many + 1):
            goals = {}
            ahead = led_by_links(many, links, standing[0], letter)
            for last, behind in ahead:
                goals.setdefault(last, []).append(behind)
            others = led_by_links(many, other_links, standing[1], letter) if goals else []
            for last, other_behind in others:
                for behind in goals.get(last, []):
                    found.append((letter if letter < many else SILENT, (behind, other_behind)))
        return found

    first = ((0,) * len(links), (0,) * len(other_links))
    standings, ways = spread_many(first, steps, MOST_CHAINED)
    taken = [have_ended(links, one) and have_ended(other_links, other) for one, other in standings]
    return determined(ways, taken)
