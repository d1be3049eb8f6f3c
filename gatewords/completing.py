"""Rules completed up to a number of letters, as far as words of so many letters tell.

Words are strings here, letter k being the k-th small letter, so that their
order is that of the words told. Each rule is alike with steps by equations of
the group and by rules that were found ahead of it, which is kept as its proof:
a list of (place, number, forward), number being that of a rule, or below 0 that
of an equation.
"""

from heapq import heappop, heappush

from gatewords.errors import TooMany
from gatewords.lefttrees import put_left, told_of_end
from gatewords.letters import rank
from gatewords.lettertexts import SMALL
from gatewords.systems import MOST_REPLACED, System

# Many rules may go again when shorter ones are found. Where so many stand at
# once it is taken that they will not come to be 140.
MOST_STANDING = 4000


def told_as_string(word):
    """The string of a tuple of letters."""
    return "".join([SMALL[letter] for letter in word])


def told_as_word(string):
    """The tuple of letters of a string."""
    return tuple([SMALL.index(sign) for sign in string])


def back_along(proof):
    """The proof of the same the other way round."""
    return [(place, number, not forward) for place, number, forward in proof[::-1]]


def equations_of(group, most):
    """The equations of a group whose sides have at most most letters."""
    pairs = list(group.rules) + [((letter, undoing), ()) for letter, undoing in enumerate(group.back)]
    return [pair for pair in pairs if max(len(pair[0]), len(pair[1])) <= most]


class Completion:
    """The rules that follow from a group's equations of at most most letters, as far as was gone on."""

    def __init__(self, group, most):
        self.back = group.back
        self.most = most
        self.equations = equations_of(group, most)
        # Of each rule ever found the left side, the right side and the proof.
        self.found = []
        # The left sides that stand, each with the number of its rule.
        self.standing = {}
        self.tree = {}
        # The numbers of the rules whose left sides begin with a string.
        self.fronts = {}
        self.ends = {}
        # What is to be looked at: length, when it came, and then either two rules
        # and how many letters they share, or an equation with its proof.
        self.waiting = []
        self.many = 0
        for place, (one, other) in enumerate(self.equations):
            self.wait_for(told_as_string(one), told_as_string(other), [(0, -1 - place, True)])

    def wait_for(self, one, other, proof):
        """Let an equation wait, told by both strings and the proof of it."""
        heappush(self.waiting, (max(len(one), len(other)), self.many, one, other, proof))
        self.many += 1

    def replaced(self, string, right_of):
        """The reduced string, and the proof that leads to it.

        right_of tells for a rule what comes in for its left side, and the proof
        that leads there from its right side.
        """
        left = []
        waiting = list(string[::-1])
        proof = []
        while waiting:
            left.append(waiting.pop())
            number = told_of_end(self.tree, left)
            if number is not None:
                del left[len(left) - len(self.found[number][0]):]
                right, led = right_of(number)
                at = len(left)
                proof.append((at, number, True))
                proof.extend([(place + at, rule, forward) for place, rule, forward in led])
                waiting.extend(right[::-1])
        return "".join(left), proof

    def reduced(self, string):
        """The reduced string, and the proof that leads to it, by right sides as they were found."""
        return self.replaced(string, lambda number: (self.found[number][1], []))

    def reduced_as_told(self, string):
        """What the System reduces a string of any length to, and the proof that leads to it.

        The right sides of the System are reduced, which long words may tell from others.
        """
        return self.replaced(string, lambda number: self.reduced(self.found[number][1]))

    def drop(self, left):
        """Let a rule go, since a shorter left side stands in its own; what it says waits."""
        # It stays in the tree, where the shorter one always ends first.
        number = self.standing[left]
        del self.standing[left]
        for size in range(1, len(left)):
            del self.fronts[left[:size]][number]
            del self.ends[left[-size:]][number]
        self.wait_for(left, self.found[number][1], [(0, number, True)])

    def wait_for_overlaps(self, left, number):
        """Let the words wait in which a new left side overlaps with one that stands."""
        for size in range(1, len(left)):
            for other in self.fronts.get(left[-size:], {}):
                self.wait_for_overlap(number, other, size)
            for other in self.ends.get(left[:size], {}):
                if other != number:
                    self.wait_for_overlap(other, number, size)

    def wait_for_overlap(self, one, other, size):
        """Let the word wait in which two left sides share so many letters, unless it is too long."""
        length = len(self.found[one][0]) + len(self.found[other][0]) - size
        if length <= self.most:
            heappush(self.waiting, (length, self.many, one, other, size))
            self.many += 1

    def put(self, left, right, proof):
        """Put a rule to those that stand."""
        longer = [other for other in self.standing if left in other]
        for other in longer:
            self.drop(other)
        number = len(self.found)
        self.found.append((left, right, proof))
        self.standing[left] = number
        put_left(self.tree, left, number)
        for size in range(1, len(left)):
            self.fronts.setdefault(left[:size], {})[number] = True
            self.ends.setdefault(left[-size:], {})[number] = True
        self.wait_for_overlaps(left, number)

    def compare(self, one, other, proof):
        """Look at an equation; it makes a rule unless both sides are reduced to the same."""
        left, led = self.reduced(one)
        right, other_led = self.reduced(other)
        if left == right:
            return
        whole = back_along(led) + proof + other_led
        if rank(left) < rank(right):
            self.put(right, left, back_along(whole))
        else:
            self.put(left, right, whole)

    def look(self, told):
        """Look at what waited."""
        _, _, one, other, rest = told
        if isinstance(one, str):
            self.compare(one, other, rest)
            return
        left, right, _ = self.found[one]
        second, second_right, _ = self.found[other]
        if self.standing.get(left) != one or self.standing.get(second) != other:
            return
        front = left[:len(left) - rest]
        proof = [(0, one, False), (len(front), other, True)]
        self.compare(right + second[rest:], front + second_right, proof)

    def go_on(self, span):
        """Go on until all words of at most span letters tell nothing new."""
        while self.waiting and self.waiting[0][0] <= span:
            self.look(heappop(self.waiting))
            if len(self.standing) > MOST_STANDING:
                raise TooMany(MOST_REPLACED)

    def system(self):
        """The System of what was found; TooMany if it has too many rules."""
        if len(self.standing) > MOST_REPLACED:
            raise TooMany(MOST_REPLACED)
        rules = []
        for left in sorted(self.standing, key=rank):
            right, _ = self.reduced(self.found[self.standing[left]][1])
            rules.append((told_as_word(left), told_as_word(right)))
        return System(self.back, rules)


def completed(group, span):
    """The Completion of a group at a span."""
    completion = Completion(group, span)
    completion.go_on(span)
    return completion
