"""Tables of cosets of subgroups, told by rules alone."""

from gatewords.errors import BadMachine, TooMany
from gatewords.groups import want_group
from gatewords.layers import MOST_LAYER, Layers
from gatewords.letters import freed, rank, turned_back, want_word
from gatewords.machines import Machine, state_behind, want_machine
from gatewords.shapes import met_states
from gatewords.subgroups import want_subgroup


def keeps_backs(back, ways):
    """Whether each way is a state, from which what undoes its letter leads back."""
    for state, way in enumerate(ways):
        if None in way or any([ways[to][back[letter]] != state for letter, to in enumerate(way)]):
            return False
    return True


def keeps_rules(group, ways):
    """Whether both sides of each rule lead each state to one state, all ways being states."""
    for one, other in group.rules:
        for state in range(len(ways)):
            if state_behind(ways, state, one) != state_behind(ways, state, other):
                return False
    return True


def judged_table(group, thing):
    """Whether any value is a table of a group."""
    if not isinstance(thing, Machine) or thing.letters != len(group.back) or thing.ends != (0,):
        return False
    if not keeps_backs(group.back, thing.ways):
        return False
    order = met_states([{letter: to for letter, to in enumerate(way)} for way in thing.ways])
    return order == list(range(len(thing.ways))) and keeps_rules(group, thing.ways)


def is_table(group, thing):
    """Whether any value is a table of a group."""
    want_group(group)
    return judged_table(group, thing)


def want_table(group, table):
    """BadGroup(None), BadMachine(None), and BadMachine("table") unless a table of the group."""
    want_group(group)
    want_machine(table)
    if not judged_table(group, table):
        raise BadMachine("table")


def least_words(ways):
    """The least word that leads to each state of a table, in their sequence."""
    words = [()]
    for state, way in enumerate(ways):
        for letter, to in enumerate(way):
            if to == len(words):
                words.append(words[state] + (letter,))
    return words


def gens_of(group, table):
    """The free words that lead round from 0 over least words and one further letter, in their order."""
    words = least_words(table.ways)
    found = {}
    for state, way in enumerate(table.ways):
        for letter, to in enumerate(way):
            found[freed(group.back, words[state] + (letter,) + turned_back(group.back, words[to]))] = True
    return sorted([word for word in found if word], key=rank)


def table_gens(group, table):
    """Words of which the subgroup is told by a table, each once, in their order."""
    want_table(group, table)
    return gens_of(group, table)


def found_table(sub):
    """The first one of the layers of a subgroup that is a table of its group."""
    want_subgroup(sub)
    layers = Layers(sub, False)
    for number in range(MOST_LAYER + 1):
        if number:
            layers.go_on()
        table = layers.machine()
        if judged_table(sub.group, table):
            return table
    raise TooMany(MOST_LAYER)


def table_takes(group, table, word):
    """Whether a word leads from 0 to 0 in a table."""
    want_table(group, table)
    want_word(group.back, word)
    return state_behind(table.ways, 0, word) == 0
