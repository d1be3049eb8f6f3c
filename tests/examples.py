"""Claims and groups of the document and a few plain ones."""

from gatewords.claims import Claim
from gatewords.groups import Group
from gatewords.machines import Machine
from gatewords.pairs import pair_row
from gatewords.rowmakers import free_rows, just_rows


def near_of(back, pairs):
    """The machine that takes just the pair rows of these pairs of words."""
    return just_rows((len(back) + 1) ** 2, [pair_row(back, one, other) for one, other in pairs])


THREE = Group((1, 0), [((0, 0, 0), ())])


def three_claim():
    """The claim of the group of three elements."""
    words = Machine(2, [(1, 1), (None, None)], [0, 1])
    normals = [(), (0,), (1,)]
    led = [((), (0,)), ((0,), (1,)), ((1,), ())]
    nears = [near_of((1, 0), [(a, a) for a in normals]), near_of((1, 0), led),
             near_of((1, 0), [(b, a) for a, b in led])]
    return Claim(THREE, words, nears)


def cyclic_claim(many):
    """The claim of the group of so many elements, by the powers of its letter 0."""
    back = (1, 0)
    normals = [(0,) * k for k in range(many)]
    led = [(normals[k], normals[(k + 1) % many]) for k in range(many)]
    nears = [near_of(back, [(a, a) for a in normals]), near_of(back, led), near_of(back, [(b, a) for a, b in led])]
    return Claim(Group(back, [((0,) * many, ())]), just_rows(2, normals), nears)


def two_claim():
    """The claim of the group of two elements, both letters undoing themselves and being alike."""
    back = (0, 1)
    led = [((), (0,)), ((0,), ())]
    nears = [near_of(back, [((), ()), ((0,), (0,))]), near_of(back, led), near_of(back, led)]
    return Claim(Group(back, [((0,), (1,))]), just_rows(2, [(), (0,)]), nears)


def endless_claim():
    """The claim of the group of the whole numbers."""
    back = (1, 0)
    words = free_rows(2, [(0, 1), (1, 0)])
    same = Machine(9, [(1, None, None, None, 2, None, None, None, None),
                       (1,) + (None,) * 8, (None,) * 4 + (2,) + (None,) * 4], [0, 1, 2])
    # 0 behind: one more 0, or one 1 less.
    put = Machine(9, [(1, None, None, None, 2, 3, 3, None, None),
                      (1, None, None, None, None, None, 3, None, None),
                      (None, None, None, None, 2, 3, None, None, None), (None,) * 9], [3])
    taken = Machine(9, [(1, None, 3, None, 2, None, None, 3, None),
                        (1, None, 3, None, None, None, None, None, None),
                        (None, None, None, None, 2, None, None, 3, None), (None,) * 9], [3])
    return Claim(Group(back, []), words, [same, put, taken])
