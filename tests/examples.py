"""Claims and groups of the document and a few plain ones."""

from gatewords.claims import Claim
from gatewords.groups import Group
from gatewords.machines import Machine
from gatewords.pairs import pair_row
from gatewords.rowmakers import free_rows, just_rows


def near_of(back, pairs):
    """The machine that takes just the pair rows of these pairs of words."""
    return just_rows((len(back) + 1) ** 2, [pair_row(back, one, other) for one, other in pairs])


THREE = Group((1, 0), [((0, 0, 0), ())])


def three_claim():
    """The claim of the group of three elements."""
    words = Machine(2, [(1, 1), (None, None)], [0, 1])
    normals = [(), (0,), (1,)]
    led = [((), (0,)), ((0,), (1,)), ((1,), ())]
    nears = [near_of((1, 0), [(a, a) for a in normals]), near_of((1, 0), led),
             near_of((1, 0), [(b, a) for a, b in led])]
    return Claim(THREE, words, nears)


def cyclic_claim(many):
    """The claim of the group of so many elements, by the powers of its letter 0."""
    back = (1, 0)
    normals = [(0,) * k for k in range(many)]
    led = [(normals[k], normals[(k + 1) % many]) for k in range(many)]
    nears = [near_of(back, [(a, a) for a in normals]), near_of(back, led), near_of(back, [(b, a) for a, b in led])]
    return Claim(Group(back, [((0,) * many, ())]), just_rows(2, normals), nears)


def two_claim():
    """The claim of the group of two elements, both letters undoing themselves and being alike."""
    back = (0, 1)
    led = [((), (0,)), ((0,), ())]
    nears = [near_of(back, [((), ()), ((0,), (0,))]), near_of(back, led), near_of(back, led)]
    return Claim(Group(back, [((0,), (1,))]), just_rows(2, [(), (0,)]), nears)


def endless_claim():
    """The claim of the group of the whole numbers."""
    back = (1, 0)
    words = free_rows(2, [(0, 1), (1, 0)])
    same = Machine(9, [(1, None, None, None, 2, None, None, None, None),
                       (1,) + (None,) * 8, (None,) * 4 + (2,) + (None,) * 4], [0, 1, 2])
    # 0 behind: one more 0, or one 1 less.
    put = Machine(9, [(1, None, None, None, 2, 3, 3, None, None),
                      (1, None, None, None, None, None, 3, None, None),
                      (None, None, None, None, 2, 3, None, None, None), (None,) * 9], [3])
    taken = Machine(9, [(1, None, 3, None, 2, None, None, 3, None),
                        (1, None, 3, None, None, None, None, None, None),
                        (None, None, None, None, 2, None, None, 3, None), (None,) * 9], [3])
    return Claim(Group(back, []), words, [same, put, taken])


def tree_words(back, moves):
    """For each point that letters lead to from point 0 the least word that does so."""
    words = {0: ()}
    order = [0]
    for point in order:
        for letter in range(len(back)):
            to = moves[letter][point]
            if to not in words:
                words[to] = words[point] + (letter,)
                order.append(to)
    return words


def acting_claim(back, moves, rules):
    """The claim whose letters lead the least word of each point to that of the point moved."""
    words = tree_words(back, moves)
    nears = [near_of(back, [(word, word) for word in words.values()])]
    for letter in range(len(back)):
        nears.append(near_of(back, [(word, words[moves[letter][point]]) for point, word in words.items()]))
    return Claim(Group(back, rules), just_rows(len(back), list(words.values())), nears)


def regular_moves(gens):
    """For each of some permutations how it moves the permutations that they come to, 0 being no move."""
    start = tuple(range(len(gens[0])))
    places = {start: 0}
    order = [start]
    for one in order:
        for gen in gens:
            to = tuple(gen[point] for point in one)
            if to not in places:
                places[to] = len(order)
                order.append(to)
    return [[places[tuple(gen[point] for point in one)] for one in order] for gen in gens]


S3_BACK = (0, 1)
S3_GENS = [(1, 0, 2), (0, 2, 1)]
S3_RULES = [((0, 1, 0), (1, 0, 1))]
S4_BACK = (0, 1, 2)
S4_GENS = [(1, 0, 2, 3), (0, 2, 1, 3), (0, 1, 3, 2)]
S4_RULES = [((0, 1, 0), (1, 0, 1)), ((1, 2, 1), (2, 1, 2)), ((0, 2), (2, 0))]
# Letter 0 goes round over four points, 1 back, 2 turns them over.
D4_BACK = (1, 0, 2)
D4_GENS = [(1, 2, 3, 0), (3, 0, 1, 2), (0, 3, 2, 1)]
D4_RULES = [((0, 0, 0, 0), ()), ((2, 0, 2, 0), ())]


def s3_claim():
    """The claim of the group of all permutations of three points."""
    return acting_claim(S3_BACK, regular_moves(S3_GENS), S3_RULES)


def s4_claim():
    """The claim of the group of all permutations of four points."""
    return acting_claim(S4_BACK, regular_moves(S4_GENS), S4_RULES)


def d4_claim():
    """The claim of the group of eight elements that turn a square round and over."""
    return acting_claim(D4_BACK, regular_moves(D4_GENS), D4_RULES)


def points_claim():
    """Letters that lead three points, so no group: each word that leads () back moves another one."""
    return acting_claim(S3_BACK, S3_GENS, S3_RULES)


def line_claim(rules=()):
    """Letters 0 and 1 lead along a line, 2 exchanges two neighbours: endless, and no group."""
    back = (1, 0, 2)
    whole = endless_claim()
    names = [0, 1, 3]

    def moved(near):
        ways = []
        for way in near.ways:
            longer = [None] * 16
            for number, to in enumerate(way):
                longer[names[number // 3] * 4 + names[number % 3]] = to
            ways.append(longer)
        return Machine(16, ways, near.ends)

    words = Machine(3, [tuple(way) + (None,) for way in whole.words.ways], whole.words.ends)
    # Letter 2 pairs () with (0,), and all others with themselves.
    ways = [[None] * 16 for _ in range(5)]
    ways[0][0] = 1
    ways[0][5] = 2
    ways[0][3] = ways[0][12] = 4
    ways[1][0] = 3
    ways[3][0] = 3
    ways[2][5] = 2
    swap = Machine(16, ways, [2, 3, 4])
    return Claim(Group(back, rules), words, [moved(near) for near in whole.nears] + [swap])
