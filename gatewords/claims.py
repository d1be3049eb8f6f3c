"""Claims that machines tell a group."""

from gatewords.errors import BadClaim, BadNumber
from gatewords.groups import Group
from gatewords.letters import is_list, is_number_in, want_letters
from gatewords.machines import Machine, state_behind
from gatewords.pairs import row_of_pair


def is_machine_of(letters, thing):
    """Whether any value is a Machine with so many letters."""
    return isinstance(thing, Machine) and thing.letters == letters


def are_nears(many, thing):
    """Whether any value is a list of one machine of pair rows, and one for each letter."""
    if not is_list(thing) or len(thing) != many + 1:
        return False
    return all([is_machine_of((many + 1) ** 2, near) for near in thing])


class Claim:
    """The claim that these machines read the normal words, and their pairs, of a group."""

    def __init__(self, group, words, nears):
        if not isinstance(group, Group):
            raise BadClaim("group")
        if not is_machine_of(len(group.back), words):
            raise BadClaim("words")
        if not are_nears(len(group.back), nears):
            raise BadClaim("nears")
        self.group = group
        self.words = words
        self.nears = tuple(nears)

    def __eq__(self, other):
        if not isinstance(other, Claim):
            return False
        return self.group == other.group and self.words == other.words and self.nears == other.nears


def want_claim(claim):
    """BadClaim(None) unless a Claim."""
    if not isinstance(claim, Claim):
        raise BadClaim(None)


def says(claim, letter, one, other):
    """Whether the machine of a letter, or of None, takes the pair row of two words."""
    want_claim(claim)
    back = claim.group.back
    if letter is not None and not is_number_in(letter, 0, len(back) - 1):
        raise BadNumber("letter")
    want_letters(back, one)
    want_letters(back, other)
    near = claim.nears[0 if letter is None else letter + 1]
    return state_behind(near.ways, 0, row_of_pair(len(back), one, other)) in near.ends
