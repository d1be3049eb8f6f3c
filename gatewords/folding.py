"""Folding, by which rounds of letters become machines of subgroups.

Each state stands for an element g of the group, state 0 for (). A way from s by
the letter k to t has a spelling: what it spells is the element of s, the letter
k and what undoes the element of t, one behind the other. None stands for a
spelling of too many numbers; what comes of it is None, too.
"""

from gatewords.letters import turned_back
from gatewords.subgroups import freed_spelling, turned_spelling

MOST_SPELLED = 1000


def spelled_behind(one, other):
    """The spelling of what two spellings spell one behind the other, None if it is too long."""
    if one is None or other is None:
        return None
    if one == () or other == ():
        return one + other
    found = freed_spelling(one + other)
    return found if len(found) <= MOST_SPELLED else None


def spelled_back(spelling):
    """The spelling of what undoes what a spelling spells."""
    return None if spelling is None else turned_spelling(spelling)


class Folding:
    """States and ways that are folded as rounds come to them."""

    def __init__(self, back):
        self.back = back
        # For each state the ways, by letter: a state and a spelling.
        self.ways = [{}]
        # Of each state that was made one with another: that one, and what is ahead
        # of the element there in its own; None for states that stand.
        self.leads = [None]
        # How many states stand.
        self.alive = 1
        # How many rounds changed something.
        self.changes = 0

    def states_left(self):
        """The states that stand."""
        return [state for state in range(len(self.leads)) if self.leads[state] is None]

    def resolved(self, state):
        """The state that stands for one, and the spelling of what is ahead of its element."""
        spelling = ()
        met = []
        while self.leads[state] is not None:
            met.append(state)
            state = self.leads[state][0]
        # From the last one on, so that each lead tells all of the way.
        for place in met[::-1]:
            spelling = spelled_behind(self.leads[place][1], spelling)
            self.leads[place] = (state, spelling)
        return state, spelling

    def step(self, state, letter):
        """The state to which a letter leads one that stands, and the spelling of the way; None if none."""
        way = self.ways[state].get(letter)
        if way is None or self.leads[way[0]] is None:
            return way
        to, rest = self.resolved(way[0])
        way = (to, spelled_behind(way[1], rest))
        self.ways[state][letter] = way
        return way

    def new_state(self):
        """A state without ways."""
        self.ways.append({})
        self.leads.append(None)
        self.alive += 1
        return len(self.ways) - 1

    def put_half(self, state, letter, to, spelling):
        """Put a way, one way round; what is to be made one with what, and the spelling between."""
        old = self.step(state, letter)
        if old is None:
            self.ways[state][letter] = (to, spelling)
            return []
        if old[1] is None or spelling is not None and len(spelling) < len(old[1]):
            self.ways[state][letter] = (to, spelling)
        return [] if old[0] == to else [(to, old[0], spelled_behind(spelled_back(spelling), old[1]))]

    def put_way(self, state, letter, to, spelling):
        """Put a way, and the one back, between states that stand; what is to be made one then."""
        found = self.put_half(state, letter, to, spelling)
        return found + self.put_half(to, self.back[letter], state, spelled_back(spelling))

    def make_one(self, waiting):
        """Make states one: of each triple the first element is the spelling ahead of the second one."""
        while waiting:
            one, other, spelling = waiting.pop()
            first, ahead = self.resolved(one)
            second, rest = self.resolved(other)
            if first == second:
                continue
            spelling = spelled_behind(spelled_behind(spelled_back(ahead), spelling), rest)
            if first < second:
                first, second, spelling = second, first, spelled_back(spelling)
            self.leads[first] = (second, spelling)
            self.alive -= 1
            ways = self.ways[first]
            self.ways[first] = {}
            front = spelled_back(spelling)
            for letter, (to, told) in ways.items():
                goal, behind = self.resolved(to)
                whole = spelled_behind(spelled_behind(front, told), behind)
                waiting.extend(self.put_way(second, letter, goal, whole))

    def front_of_round(self, state, word):
        """How many letters of a word lead on from a state, where to, and by which spelling."""
        spelling = ()
        for at, letter in enumerate(word):
            way = self.step(state, letter)
            if way is None:
                return at, state, spelling
            state = way[0]
            spelling = spelled_behind(spelling, way[1])
        return len(word), state, spelling

    def put_round(self, state, word, spelling):
        """Put a round of a word to a state that stands, which leads to itself by this spelling."""
        ahead, one, front = self.front_of_round(state, word)
        rest = turned_back(self.back, word[ahead:])
        many, other, end = self.front_of_round(state, rest)
        end = spelled_behind(spelling, end)
        last = len(word) - many
        if last == ahead:
            waiting = [] if one == other else [(one, other, spelled_behind(spelled_back(front), end))]
        else:
            for letter in word[ahead:last - 1]:
                way = self.step(one, letter)
                if way is None:
                    way = (self.new_state(), ())
                    self.put_way(one, letter, way[0], ())
                one = way[0]
                front = spelled_behind(front, way[1])
            waiting = self.put_way(one, word[last - 1], other, spelled_behind(spelled_back(front), end))
            self.changes += 1
        if waiting:
            self.changes += 1
            self.make_one(waiting)

    def numbered(self):
        """The states that stand, as they are first met from 0."""
        met = {0: True}
        order = [0]
        at = 0
        while at < len(order):
            for letter in range(len(self.back)):
                way = self.step(order[at], letter)
                if way is not None and way[0] not in met:
                    met[way[0]] = True
                    order.append(way[0])
            at += 1
        return order

    def machine_ways(self):
        """The ways of the machine, its states numbered as they are first met."""
        order = self.numbered()
        places = {state: place for place, state in enumerate(order)}
        found = []
        for state in order:
            ways = [self.step(state, letter) for letter in range(len(self.back))]
            found.append([None if way is None else places[way[0]] for way in ways])
        return found
