"""How much longer letters make normal words, and whether these are short or least."""

from gatewords.knots import finished_order
from gatewords.leastrows import least_row
from gatewords.letters import rank
from gatewords.shapes import shape_of, trimmed
from gatewords.steadies import want_steady

# How both words stand to one another, letter by letter, as far as they are read.
ALIKE = 0
AHEAD = 1
BEHIND = 2


def both_ways(many, ways):
    """For each state the list of a number, both letters and the state, where both words go on."""
    found = []
    for way in ways:
        both = []
        for number in sorted(way):
            first, second = divmod(number, many + 1)
            if first < many and second < many:
                both.append((first, second, way[number]))
        found.append(both)
    return found


def met_by_both(both):
    """The states that are met while both words go on."""
    met = {0: True}
    waiting = [0]
    while waiting:
        for _, _, to in both[waiting.pop()]:
            if to not in met:
                met[to] = True
                waiting.append(to)
    return list(met)


def tail_links(many, ways, second_ends):
    """For each state those to which letters of the one word alone lead, the other one having ended."""
    found = []
    for way in ways:
        links = []
        for number, to in way.items():
            first, second = divmod(number, many + 1)
            if (second if second_ends else first) == many:
                links.append(to)
        found.append(links)
    return found


def tail_sizes(links, ends):
    """For each state the pair of the least and greatest number of steps to an end, None if there is none.

    There is no way round: endlessly many words would be paired with one.
    """
    sizes = [None] * len(links)
    for state in finished_order(links):
        found = [0] if ends[state] else []
        for to in links[state]:
            if sizes[to] is not None:
                found.extend([size + 1 for size in sizes[to]])
        if found:
            sizes[state] = (min(found), max(found))
    return sizes


def gains_of(many, near):
    """The least and the greatest gain of the letter of a near."""
    ways, ends = trimmed(shape_of(near))
    longer = tail_sizes(tail_links(many, ways, False), ends)
    shorter = tail_sizes(tail_links(many, ways, True), ends)
    found = []
    for state in met_by_both(both_ways(many, ways)):
        if longer[state] is not None:
            found.extend(longer[state])
        if shorter[state] is not None:
            found.extend([-size for size in shorter[state]])
    return (min(found), max(found))


def gains(steady):
    """For each letter the pair of the least and the greatest of its gains."""
    want_steady(steady)
    many = len(steady.claim.group.back)
    return [gains_of(many, near) for near in steady.claim.nears[1:]]


def least_of_letters(found):
    """The least of the pairs of a word and a letter, words by their order; None if there is none."""
    told = [pair for pair in found if pair[0] is not None]
    return min(told, key=lambda pair: (rank(pair[0]), pair[1])) if told else None


def longer_by_two(many, near):
    """The least normal word that the letter of a near makes longer by two letters or more, or None."""
    ways, ends = trimmed(shape_of(near))
    both = both_ways(many, ways)
    sizes = tail_sizes(tail_links(many, ways, False), ends)

    def steps(state):
        return [(first, to) for first, _, to in both[state]]

    def is_end(state):
        return sizes[state] is not None and sizes[state][1] > 1

    return least_row(0, steps, is_end)


def longer_told(steady):
    """The first normal word and letter with a gain above 1, or None."""
    many = len(steady.claim.group.back)
    found = []
    for letter, near in enumerate(steady.claim.nears[1:]):
        found.append((longer_by_two(many, near), letter))
    return least_of_letters(found)


def longer_at(steady):
    """The first normal word and letter with a gain above 1, or None."""
    want_steady(steady)
    return longer_told(steady)


def order_behind(order, first, second):
    """How the first word stands to the second one behind one more letter of each."""
    if order != ALIKE or first == second:
        return order
    return AHEAD if first < second else BEHIND


def is_later(order, letter, tails, sizes):
    """Whether the second word, which goes on alone, is behind the first one with the letter."""
    for second, to in tails:
        if sizes[to] is None:
            continue
        if sizes[to][1] > 0 or order == AHEAD or (order == ALIKE and second > letter):
            return True
    return False


def later_by(many, near, letter):
    """The least normal word that a letter leads to one behind the word with the letter, or None."""
    ways, ends = trimmed(shape_of(near))
    both = both_ways(many, ways)
    sizes = tail_sizes(tail_links(many, ways, False), ends)
    start = many * (many + 1)
    tails = [[(number - start, way[number]) for number in way if number >= start] for way in ways]

    def steps(standing):
        state, order = standing
        return [(first, (to, order_behind(order, first, second))) for first, second, to in both[state]]

    def is_end(standing):
        return is_later(standing[1], letter, tails[standing[0]], sizes)

    return least_row((0, ALIKE), steps, is_end)


def later_told(steady):
    """The first normal word and letter that lead to one behind the word with the letter, or None."""
    many = len(steady.claim.group.back)
    found = []
    for letter, near in enumerate(steady.claim.nears[1:]):
        found.append((later_by(many, near, letter), letter))
    return least_of_letters(found)


def later_at(steady):
    """The first normal word and letter that lead to one behind the word with the letter, or None."""
    want_steady(steady)
    return later_told(steady)


def is_shortest(steady):
    """Whether no letter makes a normal word longer by two letters or more."""
    want_steady(steady)
    return longer_told(steady) is None


def is_least(steady):
    """Whether no letter leads a normal word behind the word with the letter."""
    want_steady(steady)
    return later_told(steady) is None
