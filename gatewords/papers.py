"""Papers, which show by a road for each loop of the machines that it is alike with ()."""

from gatewords.errors import BadNumber, BadPaper, BadWord, TooMany
from gatewords.groups import MOST_NEAR, MOST_SIDE, all_exchanges, done, is_road, words_one_step_on
from gatewords.letters import freed, is_list, is_number_in, is_row, turned_back
from gatewords.loops import core_bounds, loops_of, ring_of
from gatewords.steadies import want_steady


def are_roads(group, words, thing):
    """Whether any value is a list of one road to () for each of these words."""
    if not is_list(thing) or len(thing) != len(words):
        return False
    return all([is_road(group, word, (), road) for word, road in zip(words, thing)])


def is_paper(steady, thing):
    """Whether any value is a paper."""
    want_steady(steady)
    return are_roads(steady.claim.group, loops_of(steady.claim), thing)


def step_between(swaps, word, other):
    """A step by one of the exchanges from a word to another one."""
    for out, put in swaps:
        for place in range(len(word) - len(out) + 1):
            if word[place:place + len(out)] == out and done(word, (place, out, put)) == other:
                return (place, out, put)
    return None


def steps_to(swaps, came, word):
    """The steps by which a word was met."""
    road = []
    while came[word] is not None:
        road.append(step_between(swaps, came[word], word))
        word = came[word]
    return road[::-1]


def words_further(swaps, came, level, most):
    """The words not met yet that are one step from those of a level; came tells from which."""
    further = []
    for word in level:
        found = words_one_step_on(swaps, word, most)
        for near in found:
            if near not in came:
                came[near] = word
                further.append(near)
        if len(came) > MOST_NEAR:
            raise TooMany(MOST_NEAR)
    return further


def shortest_road(swaps, word, most):
    """A road with as few steps as any from a word to () over words of at most most letters, or None."""
    if len(word) > most:
        return None
    if word == ():
        return []
    # What a step leads to () is seen before the words behind are met, so that
    # all words met are those of fewer steps than lead to ().
    last = {out: True for out, put in swaps if put == ()}
    came = {word: None}
    level = [word]
    while level:
        for near in level:
            if near in last:
                return steps_to(swaps, came, near) + [(0, near, ())]
        level = words_further(swaps, came, level, most)
    return None


def paper_near(steady, most):
    """For each loop a shortest road to () over words of at most most letters, or None."""
    want_steady(steady)
    if not is_number_in(most, 0, MOST_SIDE):
        raise BadNumber("most")
    swaps = all_exchanges(steady.claim.group)
    return [shortest_road(swaps, word, most) for word in loops_of(steady.claim)]


def moved_road(road, place):
    """The road, each of its steps so many letters further."""
    return [(at + place, out, put) for at, out, put in road]


def turned_road(road):
    """The road back, step by step."""
    return [(at, put, out) for at, out, put in road[::-1]]


def road_to_free(back, word, place):
    """The steps that take neighbours that undo one another out of a word, so many letters further."""
    road = []
    left = []
    for letter in word:
        if left and left[-1] == back[letter]:
            left.pop()
            road.append((place + len(left), (back[letter], letter), ()))
        else:
            left.append(letter)
    return road


def road_from_nothing(back, word, place):
    """The steps that put in a word, and behind it what undoes it, from the ends inward."""
    return [(place + at, (), (letter, back[letter])) for at, letter in enumerate(word)]


def rotation_of(word, core):
    """How many letters of a word stand behind in a rotation of it, None if core is none."""
    for start in range(len(word)):
        if word[start:] + word[:start] == core:
            return start
    return None


def road_of_rotation(back, word, road, start):
    """The road to () from the rotation of a word, of which a road to () is known."""
    front = word[:start]
    # The letters that stand behind are put in ahead too, with what undoes them ahead of them.
    outer = road_from_nothing(back, turned_back(back, front), 0)
    return outer + moved_road(road, start) + turned_road(outer)


def road_of_undone(back, word, road):
    """The road to () from what undoes a word, of which a road to () is known."""
    size = len(word)
    both = turned_back(back, word) + word
    return moved_road(turned_road(road), size) + road_to_free(back, both, 0)


def road_of_core(back, known, core):
    """The road to () from what is a rotation of a loop, or undoes one, known telling loops' roads."""
    if core == ():
        return []
    loop = ring_of(back, core)
    start = rotation_of(loop, core)
    if start is not None:
        return road_of_rotation(back, loop, known[loop], start)
    opposite = turned_back(back, core)
    start = rotation_of(loop, opposite)
    return road_of_undone(back, opposite, road_of_rotation(back, loop, known[loop], start))


def road_of_loop(back, known, word):
    """The road to () from a word whose ring is () or a loop, known telling the roads of the loops."""
    left = freed(back, word)
    start, end = core_bounds(back, left)
    inner = moved_road(road_of_core(back, known, left[start:end]), start)
    ends = left[:start] + left[end:]
    return road_to_free(back, word, 0) + inner + road_to_free(back, ends, 0)


def known_roads(steady, paper):
    """For each loop its road in a paper."""
    return {loop: list(road) for loop, road in zip(loops_of(steady.claim), paper)}


def loop_road(steady, paper, word):
    """A road to () from a word whose ring is () or a loop."""
    if not is_paper(steady, paper):
        raise BadPaper("not a paper of these machines")
    back = steady.claim.group.back
    known = known_roads(steady, paper)
    if not is_row(len(back), word) or (ring_of(back, word) and ring_of(back, word) not in known):
        raise BadWord("not a word whose ring is a loop")
    return road_of_loop(back, known, word)
