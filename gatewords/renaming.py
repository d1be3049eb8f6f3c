"""Groups and claims with their letters in another sequence."""

from gatewords.claims import Claim, want_claim
from gatewords.errors import BadNumber
from gatewords.groups import Group, want_group
from gatewords.letters import is_list, is_number
from gatewords.pairmakers import number_of
from gatewords.shapes import made, shape_of


def want_order(group, order):
    """BadNumber("order") unless a list of all letters of the group, each once."""
    if not is_list(order) or not all([is_number(letter) for letter in order]):
        raise BadNumber("order")
    if sorted(order) != list(range(len(group.back))):
        raise BadNumber("order")


def new_names(order):
    """For each letter, as it was, the letter that it is now."""
    names = [0] * len(order)
    for new, old in enumerate(order):
        names[old] = new
    return names


def renamed_word(names, word):
    """The word in new letters."""
    return tuple([names[letter] for letter in word])


def renamed_group(group, order):
    """The group whose letter k is the letter order[k] of a group."""
    names = new_names(order)
    back = tuple([names[group.back[old]] for old in order])
    rules = [(renamed_word(names, one), renamed_word(names, other)) for one, other in group.rules]
    return Group(back, rules)


def renamed(group, order):
    """The group whose letter k is the letter order[k] of a group, with the same rules."""
    want_group(group)
    want_order(group, order)
    return renamed_group(group, order)


def renamed_machine(machine, names):
    """The least form of a machine that reads names[x] where this machine reads x."""
    ways, ends = shape_of(machine)
    new_ways = [{names[number]: to for number, to in way.items()} for way in ways]
    return made(machine.letters, (new_ways, ends))


def claim_renamed(claim, order):
    """The claim of the renamed group with the same machines, reading the new letters."""
    want_claim(claim)
    want_order(claim.group, order)
    many = len(order)
    names = new_names(order) + [many]
    pair_names = [number_of(many, first, second) for first in names for second in names]
    words = renamed_machine(claim.words, names)
    nears = [renamed_machine(claim.nears[0], pair_names)]
    for old in order:
        nears.append(renamed_machine(claim.nears[old + 1], pair_names))
    return Claim(renamed_group(claim.group, order), words, nears)
