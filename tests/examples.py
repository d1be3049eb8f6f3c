"""Claims and groups of the document and a few plain ones."""

from gatewords.claims import Claim
from gatewords.groups import Group
from gatewords.judgeds import Judged
from gatewords.machines import Machine
from gatewords.pairs import pair_row
from gatewords.regular import told_group
from gatewords.rowmakers import free_rows, just_rows
from gatewords.steadies import Steady


def near_of(back, pairs):
    """The machine that takes just the pair rows of these pairs of words."""
    return just_rows((len(back) + 1) ** 2, [pair_row(back, one, other) for one, other in pairs])


THREE = Group((1, 0), [((0, 0, 0), ())])


def three_claim():
    """The claim of the group of three elements."""
    words = Machine(2, [(1, 1), (None, None)], [0, 1])
    normals = [(), (0,), (1,)]
    led = [((), (0,)), ((0,), (1,)), ((1,), ())]
    nears = [near_of((1, 0), [(a, a) for a in normals]), near_of((1, 0), led),
             near_of((1, 0), [(b, a) for a, b in led])]
    return Claim(THREE, words, nears)


def cyclic_claim(many):
    """The claim of the group of so many elements, by the powers of its letter 0.

    Of more than 40 elements the machines alone tell the group.
    """
    back = (1, 0)
    normals = [(0,) * k for k in range(many)]
    led = [(normals[k], normals[(k + 1) % many]) for k in range(many)]
    nears = [near_of(back, [(a, a) for a in normals]), near_of(back, led), near_of(back, [(b, a) for a, b in led])]
    rules = [((0,) * many, ())] if many <= 40 else []
    return Claim(Group(back, rules), just_rows(2, normals), nears)


def two_claim():
    """The claim of the group of two elements, both letters undoing themselves and being alike."""
    back = (0, 1)
    led = [((), (0,)), ((0,), ())]
    nears = [near_of(back, [((), ()), ((0,), (0,))]), near_of(back, led), near_of(back, led)]
    return Claim(Group(back, [((0,), (1,))]), just_rows(2, [(), (0,)]), nears)


def endless_claim():
    """The claim of the group of the whole numbers."""
    back = (1, 0)
    words = free_rows(2, [(0, 1), (1, 0)])
    same = Machine(9, [(1, None, None, None, 2, None, None, None, None),
                       (1,) + (None,) * 8, (None,) * 4 + (2,) + (None,) * 4], [0, 1, 2])
    # 0 behind: one more 0, or one 1 less.
    put = Machine(9, [(1, None, None, None, 2, 3, 3, None, None),
                      (1, None, None, None, None, None, 3, None, None),
                      (None, None, None, None, 2, 3, None, None, None), (None,) * 9], [3])
    taken = Machine(9, [(1, None, 3, None, 2, None, None, 3, None),
                        (1, None, 3, None, None, None, None, None, None),
                        (None, None, None, None, 2, None, None, 3, None), (None,) * 9], [3])
    return Claim(Group(back, []), words, [same, put, taken])


def tree_words(back, moves):
    """For each point that letters lead to from point 0 the least word that does so."""
    words = {0: ()}
    order = [0]
    for point in order:
        for letter in range(len(back)):
            to = moves[letter][point]
            if to not in words:
                words[to] = words[point] + (letter,)
                order.append(to)
    return words


def acting_claim(back, moves, rules):
    """The claim whose letters lead the least word of each point to that of the point moved."""
    words = tree_words(back, moves)
    nears = [near_of(back, [(word, word) for word in words.values()])]
    for letter in range(len(back)):
        nears.append(near_of(back, [(word, words[moves[letter][point]]) for point, word in words.items()]))
    return Claim(Group(back, rules), just_rows(len(back), list(words.values())), nears)


def regular_moves(gens):
    """For each of some permutations how it moves the permutations that they come to, 0 being no move."""
    start = tuple(range(len(gens[0])))
    places = {start: 0}
    order = [start]
    for one in order:
        for gen in gens:
            to = tuple(gen[point] for point in one)
            if to not in places:
                places[to] = len(order)
                order.append(to)
    return [[places[tuple(gen[point] for point in one)] for one in order] for gen in gens]


S3_BACK = (0, 1)
S3_GENS = [(1, 0, 2), (0, 2, 1)]
S3_RULES = [((0, 1, 0), (1, 0, 1))]
S4_BACK = (0, 1, 2)
S4_GENS = [(1, 0, 2, 3), (0, 2, 1, 3), (0, 1, 3, 2)]
S4_RULES = [((0, 1, 0), (1, 0, 1)), ((1, 2, 1), (2, 1, 2)), ((0, 2), (2, 0))]
# Letter 0 goes round over four points, 1 back, 2 turns them over.
D4_BACK = (1, 0, 2)
D4_GENS = [(1, 2, 3, 0), (3, 0, 1, 2), (0, 3, 2, 1)]
D4_RULES = [((0, 0, 0, 0), ()), ((2, 0, 2, 0), ())]


def s3_claim():
    """The claim of the group of all permutations of three points."""
    return acting_claim(S3_BACK, regular_moves(S3_GENS), S3_RULES)


def s4_claim():
    """The claim of the group of all permutations of four points."""
    return acting_claim(S4_BACK, regular_moves(S4_GENS), S4_RULES)


def d4_claim():
    """The claim of the group of eight elements that turn a square round and over."""
    return acting_claim(D4_BACK, regular_moves(D4_GENS), D4_RULES)


def points_claim():
    """Letters that lead three points, so no group: each word that leads () back moves another one."""
    return acting_claim(S3_BACK, S3_GENS, S3_RULES)


def line_claim(rules=()):
    """Letters 0 and 1 lead along a line, 2 exchanges two neighbours: endless, and no group."""
    back = (1, 0, 2)
    whole = endless_claim()
    names = [0, 1, 3]

    def moved(near):
        ways = []
        for way in near.ways:
            longer = [None] * 16
            for number, to in enumerate(way):
                longer[names[number // 3] * 4 + names[number % 3]] = to
            ways.append(longer)
        return Machine(16, ways, near.ends)

    words = Machine(3, [tuple(way) + (None,) for way in whole.words.ways], whole.words.ends)
    # Letter 2 pairs () with (0,), and all others with themselves.
    ways = [[None] * 16 for _ in range(5)]
    ways[0][0] = 1
    ways[0][5] = 2
    ways[0][3] = ways[0][12] = 4
    ways[1][0] = 3
    ways[3][0] = 3
    ways[2][5] = 2
    swap = Machine(16, ways, [2, 3, 4])
    return Claim(Group(back, rules), words, [moved(near) for near in whole.nears] + [swap])


def with_rules(claim, rules):
    """The claim of a group with these rules, by the same machines."""
    return Claim(Group(claim.group.back, rules), claim.words, claim.nears)


def told_judged(claim):
    """The Judged of the group that the machines of a claim tell."""
    group = told_group(Steady(claim))
    return Judged(with_rules(claim, group.rules), [[(0, word, ())] for word, _ in group.rules])


def two_powers(size, further):
    """Letters that exchange bits of as many bits, and further ones, each of some bits; back and moves."""
    moves = [[point ^ (1 << bit) for point in range(2 ** size)] for bit in range(size)]
    for bits in further:
        moves.append([point ^ sum(1 << bit for bit in bits) for point in range(2 ** size)])
    return tuple(range(len(moves))), moves


def far_claim(at):
    """Letters 0 and 1 lead along a line, letter 2 exchanges the words of at and at + 1 letters 0."""
    claim = line_claim()
    ways = [[None] * 16 for _ in range(2 * at + 6)]
    # States 0 to at read letters 0 alone.
    for k in range(at):
        ways[k][0] = k + 1
    one_more, one_less, further = at + 1, at + 2, at + 3
    ways[at][3], ways[at][12] = one_less, one_less
    ways[at][0] = one_more
    # Both of more than at + 1 letters 0.
    ways[one_more][0] = further
    ways[further][0] = further
    ways[0][5] = at + 4
    ways[at + 4][5] = at + 4
    ends = sorted(list(range(at)) + [one_less, further, at + 4])
    nears = list(claim.nears[:-1]) + [Machine(16, ways, ends)]
    return Claim(claim.group, claim.words, nears)


def digits_claim(many, base):
    """As many elements, by numbers of three digits: letters 4, 2, 0 put 1 to a digit each."""
    back = (1, 0, 3, 2, 5, 4)

    def word(number):
        high, rest = divmod(number % many, base * base)
        middle, low = divmod(rest, base)
        return (4,) * high + (2,) * middle + (0,) * low

    nears = [near_of(back, [(word(k), word(k)) for k in range(many)])]
    for step in (1, -1, base, -base, base * base, -base * base):
        nears.append(near_of(back, [(word(k), word(k + step)) for k in range(many)]))
    return Claim(Group(back, []), just_rows(6, [word(k) for k in range(many)]), nears)
