"""What nears pair: their first words, their second ones, and those led to from others."""

from gatewords.letters import want_back, want_word
from gatewords.machines import want_machine
from gatewords.pairmakers import pairs_alone, turned_shape, want_near, want_words
from gatewords.partners import partners
from gatewords.rowmakers import all_shape
from gatewords.shapes import least_shape, made, shape_of
from gatewords.standings import SILENT, determined, spread_many


def ways_by_first(many, ways):
    """For each state the dict that tells for first letters the pairs of a second one and a state."""
    found = []
    for way in ways:
        by_first = {}
        for number, to in way.items():
            first, second = divmod(number, many + 1)
            by_first.setdefault(first, []).append((second, to))
        found.append(by_first)
    return found


def led_shape(many, words, near):
    """The shape that takes the words with which near pairs some word that words takes.

    None stands for the word that has ended. Where the second word has ended the
    rest of the first one is read without a sign of it.
    """
    ways, ends = words
    near_ways = ways_by_first(many, near[0])

    def steps(standing):
        state, near_state = standing
        goals = [] if state is None else list(ways[state].items())
        if state is None or ends[state]:
            goals.append((many, None))
        found = []
        for first, to in goals:
            for second, near_to in near_ways[near_state].get(first, []):
                found.append((second if second < many else SILENT, (to, near_to)))
        return found

    standings, made_ways = spread_many((0, 0), steps, None)
    taken = [near[1][at] and (state is None or ends[state]) for state, at in standings]
    return determined(made_ways, taken)


def near_shape(back, near):
    """The shape of the pair rows that near takes, in its least form."""
    return least_shape(pairs_alone(len(back), shape_of(near)))


def firsts_of(back, near):
    """The machine that takes the words that near pairs with some word."""
    want_machine(near)
    want_back(back)
    want_near(back, near)
    many = len(back)
    return made(many, led_shape(many, all_shape(many), turned_shape(many, near_shape(back, near))))


def seconds_of(back, near):
    """The machine that takes the words with which near pairs some word."""
    want_machine(near)
    want_back(back)
    want_near(back, near)
    many = len(back)
    return made(many, led_shape(many, all_shape(many), near_shape(back, near)))


def led_to(back, words, near):
    """The machine that takes the words with which near pairs some word that words takes."""
    want_machine(words)
    want_machine(near)
    want_back(back)
    want_words(back, words)
    want_near(back, near)
    many = len(back)
    return made(many, led_shape(many, least_shape(shape_of(words)), near_shape(back, near)))


def partner_of(back, near, word):
    """The least word with which near pairs a word, None if there is none."""
    want_machine(near)
    want_back(back)
    want_near(back, near)
    want_word(back, word)
    found = partners(len(back), shape_of(near), word, 1)
    return found[0] if found else None
