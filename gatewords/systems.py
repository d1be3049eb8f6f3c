"""Systems of rules that replace words by lesser ones, and words reduced by them."""

from gatewords.errors import BadSystem
from gatewords.groups import MOST_SIDE
from gatewords.lefttrees import has_left, put_left, reduced_letters, told_of_end
from gatewords.letters import is_back, is_list, is_pair, is_short_row, rank, want_letters

MOST_REPLACED = 140


def is_replacing(many, thing):
    """Whether any value is a pair of words of at most 40 letters, the second one ahead of the first one."""
    if not is_pair(thing) or not all([is_short_row(many, side, MOST_SIDE) for side in thing]):
        return False
    return rank(thing[1]) < rank(thing[0])


def tree_of_rules(rules):
    """The tree of the left sides of rules, telling their lengths and right sides."""
    tree = {}
    for left, right in rules:
        put_left(tree, left, (len(left), right))
    return tree


def stands_alone(tree, left):
    """Whether no other left side of a tree stands in one of its left sides."""
    if has_left(tree, left[:-1]):
        return False
    return told_of_end(tree, left)[0] == len(left)


def are_replacing(many, thing):
    """Whether any value is a list of at most 140 rules by ascending left sides that stand alone."""
    if not is_list(thing) or len(thing) > MOST_REPLACED:
        return False
    if not all([is_replacing(many, rule) for rule in thing]):
        return False
    if not all([rank(thing[k][0]) < rank(thing[k + 1][0]) for k in range(len(thing) - 1)]):
        return False
    tree = tree_of_rules(thing)
    return all([stands_alone(tree, left) for left, _ in thing])


class System:
    """Rules that replace words by words ahead of them."""

    def __init__(self, back, rules):
        if not is_back(back):
            raise BadSystem("back")
        if not are_replacing(len(back), rules):
            raise BadSystem("rules")
        self.back = back
        self.rules = tuple(rules)
        # Made ready once, since words are reduced again and again.
        self.tree = tree_of_rules(rules)

    def __eq__(self, other):
        return isinstance(other, System) and self.back == other.back and self.rules == other.rules


def want_system(system):
    """BadSystem(None) unless a System."""
    if not isinstance(system, System):
        raise BadSystem(None)


def reduced_by(system, word):
    """What a tuple of letters is reduced to."""
    return tuple(reduced_letters(system.tree, word))


def reduced(system, word):
    """What is left of a word when the left side that ends first is replaced, again and again."""
    want_system(system)
    want_letters(system.back, word)
    return reduced_by(system, word)


def is_reduced(system, word):
    """Whether no left side stands in a word."""
    want_system(system)
    want_letters(system.back, word)
    return not has_left(system.tree, word)
