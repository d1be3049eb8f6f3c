"""Gaps, which are what the states of the nears stand for, and the loops that they make."""

from gatewords.errors import BadNumber
from gatewords.letters import freed, is_number_in, rank, turned_back, want_back, want_letters
from gatewords.pairs import pair_of_row
from gatewords.shapes import live_states, shape_of
from gatewords.steadies import want_steady


def letter_of(many, number):
    """The tuple of a letter of a pair, none for the number of letters."""
    return (number,) if number < many else ()


def letters_of(many, number):
    """The tuples of both letters of a number of a pair row."""
    first, second = divmod(number, many + 1)
    return letter_of(many, first), letter_of(many, second)


def fronts_of(ways, live):
    """For each state the pair of words by whose least row it is met, None if it is not live."""
    fronts = [None] * len(ways)
    if live[0]:
        fronts[0] = ()
    order = [0] if live[0] else []
    at = 0
    while at < len(order):
        state = order[at]
        for number in sorted(ways[state]):
            to = ways[state][number]
            if live[to] and fronts[to] is None:
                fronts[to] = fronts[state] + (number,)
                order.append(to)
        at += 1
    return fronts


def gaps_of(back, near):
    """For each state of a near the free word of what undoes one front and the other front."""
    many = len(back)
    ways, ends = shape_of(near)
    found = []
    for row in fronts_of(ways, live_states(ways, ends)):
        if row is None:
            found.append(None)
            continue
        one, other = pair_of_row(many, row)
        found.append(freed(back, turned_back(back, one) + other))
    return found


def gaps(steady, letter):
    """For each state of the near of a letter the free word that it stands for, or None."""
    want_steady(steady)
    back = steady.claim.group.back
    if not is_number_in(letter, 0, len(back) - 1):
        raise BadNumber("letter")
    return gaps_of(back, steady.claim.nears[letter + 1])


def core_bounds(back, word):
    """From where to where a free word goes on when ends that undo one another are taken off."""
    start = 0
    end = len(word)
    while end - start >= 2 and back[word[start]] == word[end - 1]:
        start += 1
        end -= 1
    return start, end


def least_start(word):
    """The place from which the least rotation of a word begins.

    Two places are compared letter by letter; the letters found alike rule out
    as many places behind the greater one.
    """
    size = len(word)
    one, other, alike = 0, 1, 0
    while one < size and other < size and alike < size:
        first = word[(one + alike) % size]
        second = word[(other + alike) % size]
        if first == second:
            alike += 1
            continue
        if first > second:
            one += alike + 1
        else:
            other += alike + 1
        if one == other:
            other += 1
        alike = 0
    return min(one, other)


def least_rotation(word):
    """The least of all rotations of a word."""
    start = least_start(word)
    return word[start:] + word[:start]


def ring_of(back, word):
    """The ring of a tuple of letters."""
    left = freed(back, word)
    start, end = core_bounds(back, left)
    core = left[start:end]
    return min(least_rotation(core), least_rotation(turned_back(back, core)))


def ring(back, word):
    """What stands for a word, its rotations, and what undoes them, freed all round."""
    want_back(back)
    want_letters(back, word)
    return ring_of(back, word)


def raw_loops(claim):
    """The words that lead round by one way of a near, or by the letter at one of its ends.

    Each comes with its letter, the state from which it goes, and the number of
    its way, or None at an end.
    """
    back = claim.group.back
    many = len(back)
    found = []
    for letter in range(many):
        near = claim.nears[letter + 1]
        known = gaps_of(back, near)
        ways, ends = shape_of(near)
        for state, gap in enumerate(known):
            if gap is None:
                continue
            for number, to in ways[state].items():
                if known[to] is not None:
                    one, other = letters_of(many, number)
                    word = turned_back(back, one) + gap + other + turned_back(back, known[to])
                    found.append((word, letter, state, number))
            if ends[state]:
                found.append((gap + (back[letter],), letter, state, None))
    return found


def loops_of(claim):
    """The loops of the machines of a claim without fault, in their order."""
    back = claim.group.back
    rings = {ring_of(back, told[0]): True for told in raw_loops(claim)}
    return sorted([word for word in rings if word], key=rank)


def loops(steady):
    """The rings of the words that lead round by ways and ends of the nears, each once, in order."""
    want_steady(steady)
    return loops_of(steady.claim)
