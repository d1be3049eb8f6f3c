"""Partings, which show by a few points moved that a loop is not alike with ()."""

from itertools import permutations

from gatewords.errors import BadNumber, TooMany
from gatewords.letters import is_list, is_number, is_number_in
from gatewords.loops import loops_of
from gatewords.steadies import want_steady

MOST_POINTS = 12
MOST_LISTS = 20000


def is_permutation(points, thing):
    """Whether any value is a tuple of the points from 0 on below points, each once."""
    if not isinstance(thing, tuple) or not all([is_number(point) for point in thing]):
        return False
    return sorted(thing) == list(range(points))


def undoes_move(one, other):
    """Whether the one of two permutations leads back what the other one moves."""
    return all([other[to] == point for point, to in enumerate(one)])


def are_moves(back, thing):
    """Whether any value is a list of permutations, of which those of letters undo one another so."""
    if not is_list(thing) or len(thing) != len(back) or not isinstance(thing[0], tuple):
        return False
    points = len(thing[0])
    if not 1 <= points <= MOST_POINTS or not all([is_permutation(points, move) for move in thing]):
        return False
    return all([undoes_move(thing[letter], thing[other]) for letter, other in enumerate(back)])


def moved_by(moves, word, points):
    """Where the letters of a word, one by one, move the points from 0 on."""
    found = list(range(points))
    for letter in word:
        move = moves[letter]
        found = [move[point] for point in found]
    return found


def keeps_rules(group, moves):
    """Whether the two sides of each rule move each point alike."""
    points = len(moves[0])
    for one, other in group.rules:
        if moved_by(moves, one, points) != moved_by(moves, other, points):
            return False
    return True


def is_parting(steady, thing):
    """Whether any value is a parting."""
    want_steady(steady)
    if not isinstance(thing, tuple) or len(thing) != 2:
        return False
    place, moves = thing
    words = loops_of(steady.claim)
    if not is_number_in(place, 0, len(words) - 1) or not are_moves(steady.claim.group.back, moves):
        return False
    points = len(moves[0])
    return keeps_rules(steady.claim.group, moves) and moved_by(moves, words[place], points) != list(range(points))


def moves_of_letter(points, undoes_itself):
    """The permutations that a letter may have."""
    found = []
    for move in permutations(list(range(points))):
        if not undoes_itself or undoes_move(move, move):
            found.append(move)
    return found


def turned_move(move):
    """The permutation that leads back what another one moves."""
    found = [0] * len(move)
    for point, to in enumerate(move):
        found[to] = point
    return tuple(found)


def lists_of_moves(back, points):
    """All lists of permutations of which those of letters undo one another as the letters do."""
    lists = [[]]
    for letter, other in enumerate(back):
        if other < letter:
            lists = [moves + [turned_move(moves[other])] for moves in lists]
            continue
        further = moves_of_letter(points, other == letter)
        if len(lists) * len(further) > MOST_LISTS:
            raise TooMany(MOST_LISTS)
        lists = [moves + [move] for moves in lists for move in further]
    return lists


def parting_near(steady, points):
    """A parting of so many points, None if there is none."""
    want_steady(steady)
    if not is_number_in(points, 1, 5):
        raise BadNumber("points")
    claim = steady.claim
    words = loops_of(claim)
    still = list(range(points))
    for moves in lists_of_moves(claim.group.back, points):
        if not keeps_rules(claim.group, moves):
            continue
        for place, word in enumerate(words):
            if moved_by(moves, word, points) != still:
                return (place, moves)
    return None
