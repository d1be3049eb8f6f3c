"""Machines of pair rows, made of machines and of words."""

from gatewords.errors import BadMachine, BadNumber
from gatewords.letters import is_number_in, want_back
from gatewords.machines import want_machine
from gatewords.shapes import least_shape, made, shape_of, trimmed
from gatewords.standings import spread

# What of a pair row was read so far: both words go on, or one has ended.
GOING = 0
FIRST_ENDED = 1
SECOND_ENDED = 2


def want_words(back, words):
    """BadMachine("letters") unless a Machine, as it is, has as many letters as the back."""
    if words.letters != len(back):
        raise BadMachine("letters")


def want_near(back, near):
    """BadMachine("letters") unless a Machine, as it is, may read pair rows of the back."""
    if near.letters != (len(back) + 1) ** 2:
        raise BadMachine("letters")


def ended_behind(many, ended, number):
    """What is ended behind one more number of a pair row, None if it may not stand there."""
    first, second = divmod(number, many + 1)
    if first < many and second < many:
        return GOING if ended == GOING else None
    if first < many:
        return None if ended == FIRST_ENDED else SECOND_ENDED
    if second < many:
        return None if ended == SECOND_ENDED else FIRST_ENDED
    return None


def pairs_alone(many, shape):
    """The shape that takes the pair rows alone of what a shape takes, trimmed."""
    ways, ends = shape

    def steps(standing):
        state, ended = standing
        found = []
        for number, to in ways[state].items():
            behind = ended_behind(many, ended, number)
            if behind is not None:
                found.append((number, (to, behind)))
        return found

    standings, made_ways = spread((0, GOING), steps, None)
    return trimmed((made_ways, [ends[state] for state, _ in standings]))


def made_near(many, shape):
    """The Machine in its least form that takes what the shape takes, pair rows alone."""
    return made((many + 1) ** 2, pairs_alone(many, shape))


def all_pairs(back):
    """The near that pairs each word with each one."""
    want_back(back)
    many = len(back)
    every = {number: 0 for number in range((many + 1) ** 2)}
    return made_near(many, ([every], [True]))


def number_of(many, first, second):
    """The number of a pair row for two letters, many standing for no letter."""
    return first * (many + 1) + second


def steps_of_both(many, shape, other_shape, standing):
    """The steps of a pair row of words that two shapes take; None stands for an ended word."""
    state, other_state = standing
    ways = [(many, None)] if state is None or shape[1][state] else []
    if state is not None:
        ways = ways + list(shape[0][state].items())
    other_ways = [(many, None)] if other_state is None or other_shape[1][other_state] else []
    if other_state is not None:
        other_ways = other_ways + list(other_shape[0][other_state].items())
    found = []
    for first, to in ways:
        for second, other_to in other_ways:
            if to is not None or other_to is not None:
                found.append((number_of(many, first, second), (to, other_to)))
    return found


def pairs_of(back, one, other):
    """The near that pairs the words that one takes with those that other takes."""
    want_machine(one)
    want_machine(other)
    want_back(back)
    want_words(back, one)
    want_words(back, other)
    many = len(back)
    shape = least_shape(shape_of(one))
    other_shape = least_shape(shape_of(other))
    # Two standings of states of least forms are never alike, so that more than
    # these, with those of one ended word, are too many for the least form too.
    most = 2001 + len(shape[0]) + len(other_shape[0])
    standings, ways = spread((0, 0), lambda standing: steps_of_both(many, shape, other_shape, standing), most)
    ends = []
    for state, other_state in standings:
        ended = state is None or shape[1][state]
        ends.append(ended and (other_state is None or other_shape[1][other_state]))
    return made((many + 1) ** 2, (ways, ends))


def same_shape(many, shape):
    """The shape that takes the pair rows of two equal words that a shape takes."""
    ways, ends = shape
    made_ways = []
    for way in ways:
        made_ways.append({number_of(many, letter, letter): to for letter, to in way.items()})
    return made_ways, list(ends)


def same_pairs(back, words):
    """The near that pairs each word that words takes with itself."""
    want_machine(words)
    want_back(back)
    want_words(back, words)
    return made((len(back) + 1) ** 2, same_shape(len(back), shape_of(words)))


def put_pairs(back, words, letter):
    """The near that pairs each word with the one, taken by words, with this letter behind it."""
    want_machine(words)
    want_back(back)
    want_words(back, words)
    many = len(back)
    if not is_number_in(letter, 0, many - 1):
        raise BadNumber("letter")
    ways, ends = shape_of(words)
    made_ways, _ = same_shape(many, (ways, ends))
    for state, way in enumerate(ways):
        if letter in way and ends[way[letter]]:
            made_ways[state][number_of(many, many, letter)] = len(ways)
    return made((many + 1) ** 2, (made_ways + [{}], [False] * len(ways) + [True]))


def ordered_pairs(back):
    """The near that pairs each word with those that it stands ahead of."""
    want_back(back)
    many = len(back)
    alike, ahead, behind, shorter = 0, 1, 2, 3
    ways = [{}, {}, {}, {}]
    for first in range(many):
        for second in range(many):
            number = number_of(many, first, second)
            ways[ahead][number] = ahead
            ways[behind][number] = behind
            ways[alike][number] = alike if first == second else ahead if first < second else behind
    for way in ways:
        for second in range(many):
            way[number_of(many, many, second)] = shorter
    return made((many + 1) ** 2, (ways, [False, True, False, True]))


def turned_shape(many, shape):
    """The shape that takes the pair rows of words the other way round."""
    ways, ends = shape
    made_ways = []
    for way in ways:
        turned = {}
        for number, to in way.items():
            first, second = divmod(number, many + 1)
            turned[number_of(many, second, first)] = to
        made_ways.append(turned)
    return made_ways, list(ends)


def turned_pairs(back, near):
    """The near that pairs two words if near pairs them the other way round."""
    want_machine(near)
    want_back(back)
    want_near(back, near)
    return made_near(len(back), turned_shape(len(back), shape_of(near)))


def word_steps(many, shape, state, letter):
    """The list of the state behind a letter, if there is one; None stands for an ended word."""
    if letter == many:
        return [None] if state is None or shape[1][state] else []
    if state is None or letter not in shape[0][state]:
        return []
    return [shape[0][state][letter]]


def pairs_within(many, near, words):
    """The shape, in its least form, of the pairs of a near of which words takes both words."""
    ways, ends = pairs_alone(many, near)

    def steps(standing):
        at, state, other_state = standing
        found = []
        for number, to in ways[at].items():
            first, second = divmod(number, many + 1)
            for behind in word_steps(many, words, state, first):
                for other_behind in word_steps(many, words, other_state, second):
                    found.append((number, (to, behind, other_behind)))
        return found

    standings, made_ways = spread((0, 0, 0), steps, None)
    taken = []
    for at, state, other_state in standings:
        first = state is None or words[1][state]
        taken.append(ends[at] and first and (other_state is None or words[1][other_state]))
    return least_shape((made_ways, taken))
