"""Layers, which are machines of a subgroup that read more and more of its members."""

from gatewords.errors import BadNumber, TooMany
from gatewords.folding import MOST_SPELLED, Folding, spelled_behind
from gatewords.letters import freed, is_number_in, turned_back, want_word
from gatewords.machines import MOST_STATES, Machine, state_behind
from gatewords.subgroups import freed_spelling, want_subgroup, word_of_number

MOST_LAYER = 8
# So many states at once are taken not to be folded to 2000 by further rounds.
MOST_ON_THE_WAY = 1000000


def rounds_of(group):
    """The lists of the rotations of each word that leads round at all states.

    Rotation k is that of which k letters were taken from the front to the end.
    """
    words = [one + turned_back(group.back, other) for one, other in group.rules]
    words.extend([(letter, letter) for letter, undoing in enumerate(group.back) if undoing == letter])
    return [[word[at:] + word[:at] for at in range(len(word))] for word in words if word]


class Layers:
    """The layers of a subgroup, one after another; spellings are kept if told."""

    def __init__(self, sub, told):
        self.rounds = rounds_of(sub.group)
        self.folding = Folding(sub.group.back)
        for place, word in enumerate(sub.gens):
            if word:
                self.folding.put_round(0, word, (2 * place,) if told else ())
        self.stays = False

    def mark_round(self, state, rotations, start, place, marks):
        """Mark all states of a round that is there as those at which it is, each with its rotation."""
        for at, letter in enumerate(rotations[start]):
            marks[(state, place, (start + at) % len(rotations))] = True
            state = self.folding.step(state, letter)[0]

    def put_rounds(self, state, marks):
        """Put all rounds to a state."""
        folding = self.folding
        for place, rotations in enumerate(self.rounds):
            for start, word in enumerate(rotations):
                here, _ = folding.resolved(state)
                if (here, place, start) not in marks:
                    folding.put_round(here, word, ())
                    self.mark_round(folding.resolved(here)[0], rotations, start, place, marks)

    def go_on(self):
        """Make the next layer of this one."""
        if self.stays:
            return
        changes = self.folding.changes
        # Where a state is made one with another all its rounds are there, too; only marks get lost so.
        marks = {}
        for state in self.folding.states_left():
            self.put_rounds(state, marks)
            if self.folding.alive > MOST_ON_THE_WAY:
                raise TooMany(MOST_STATES)
        self.stays = self.folding.changes == changes
        # Layer 0 cannot have so many.
        if self.folding.alive > MOST_STATES:
            raise TooMany(MOST_STATES)

    def machine(self):
        """The Machine of the layer."""
        return Machine(len(self.folding.back), self.folding.machine_ways(), [0])


def layers_up_to(sub, number, told):
    """The Layers of a subgroup, at this one."""
    layers = Layers(sub, told)
    for _ in range(number):
        layers.go_on()
    return layers


def want_layer(number):
    """BadNumber("number") unless the number of a layer."""
    if not is_number_in(number, 0, MOST_LAYER):
        raise BadNumber("number")


def layer(sub, number):
    """The Machine of a layer of a subgroup."""
    want_subgroup(sub)
    want_layer(number)
    return layers_up_to(sub, number, False).machine()


def read_spelling(layers, word):
    """The spelling by which a word leads from 0 to 0 in told layers, None if it is too long."""
    state = 0
    spelling = ()
    for letter in word:
        state, more = layers.folding.step(state, letter)
        spelling = spelled_behind(spelling, more)
    return spelling


def literal_spelling(sub, word):
    """A spelling of which spelled is just a word, letter by letter, None if there is none."""
    words = [word_of_number(sub, number) for number in range(2 * len(sub.gens))]
    found = {0: ()}
    for size in range(len(word)):
        if size in found:
            for number, part in enumerate(words):
                if word[size:size + len(part)] == part:
                    found.setdefault(size + len(part), found[size] + (number,))
    return found.get(len(word))


def most_short(sub):
    """Of how many numbers spellings are gone through one by one."""
    return 6 if len(sub.gens) <= 2 else 3


def short_spellings(sub, behind):
    """For what words of short spellings come to, a spelling; behind tells what comes of a word behind it."""
    words = [word_of_number(sub, number) for number in range(2 * len(sub.gens))]
    known = {(): ()}
    level = [()]
    for _ in range(most_short(sub)):
        further = []
        for here in level:
            for number, part in enumerate(words):
                to = behind(here, part)
                if to not in known:
                    known[to] = known[here] + (number,)
                    further.append(to)
        level = further
    return known


def layer_spelling(sub, number, word):
    """A spelling of what is alike with a word that leads from 0 to 0 in a layer, None if it does not."""
    want_subgroup(sub)
    want_layer(number)
    want_word(sub.group.back, word)
    machine = layers_up_to(sub, number, False).machine()
    if state_behind(machine.ways, 0, word) != 0:
        return None
    found = literal_spelling(sub, word)
    if found is None:
        found = read_spelling(layers_up_to(sub, number, True), word)
    if found is None:
        back = sub.group.back
        found = short_spellings(sub, lambda here, part: freed(back, here + part)).get(freed(back, word))
    if found is None:
        raise TooMany(MOST_SPELLED)
    return freed_spelling(found)
