"""Rules completed up to a number of letters, as far as words of so many letters tell.

Words are strings here, letter k being the k-th small letter, so that their
order is that of the words told. Each rule is alike with steps by equations of
the group and by rules that were found ahead of it, which is kept as its proof:
a list of (place, number, forward), number being that of a rule, or below 0 that
of an equation.

In whatever sequence words are looked at, the same rules stand in the end. Only
how many stand on the way to them depends on it, which may be very many more.
"""

from heapq import heappop, heappush

from gatewords.errors import TooMany
from gatewords.groups import Group
from gatewords.lefttrees import Sides, put_left, told_of_end
from gatewords.letters import rank
from gatewords.lettertexts import SMALL
from gatewords.sureness import are_surely_more
from gatewords.systems import MOST_REPLACED, System

# How many rules stand when it is asked for the first time whether it is sure
# that too many will; it is asked again when there are so many times as many.
FIRST_ASKED = 1000
ASKED_AGAIN = 4
# How many moves are made then, to see it, for each rule that stands, and at most.
MOVES_FOR_EACH = 4000
MOST_MOVES = 16000000

# What waits is of two kinds. The first one is looked at ahead of the other one:
# equations of the group or told by rules that went, and words in which a letter
# and what undoes it overlap with a left side, by which letters go from one side of
# an equation to the other until it tells all that it can by itself. It goes by the
# letters and the steps needed, since roads grow long where what took many steps is
# used ahead of what needs few; the other one goes by letters alone.
BY_ITSELF = 0
BY_OVERLAP = 1


def told_as_string(word):
    """The string of a tuple of letters."""
    return "".join([SMALL[letter] for letter in word])


def told_as_word(string):
    """The tuple of letters of a string."""
    return tuple([SMALL.index(sign) for sign in string])


def back_along(proof):
    """The proof of the same the other way round."""
    return [(place, number, not forward) for place, number, forward in proof[::-1]]


def fitting(group, most):
    """The group of the rules whose sides have at most most letters."""
    return Group(group.back, [rule for rule in group.rules if max(len(rule[0]), len(rule[1])) <= most])


def is_undoing(left, right):
    """Whether a rule takes away two letters, or one."""
    return right == "" and len(left) <= 2


class Completion:
    """The rules that follow from a group's equations of at most most letters, as far as was gone on."""

    def __init__(self, group, most):
        self.group = fitting(group, most)
        pairs = [((letter, undoing), ()) for letter, undoing in enumerate(group.back)]
        self.equations = list(self.group.rules) + pairs
        # Of each rule ever found the left side, the right side and the proof, and how
        # many steps its road may have.
        self.found = []
        self.costs = []
        # The left sides that stand, each with the number of its rule.
        self.standing = {}
        self.tree = {}
        self.sides = Sides()
        # The sides of those rules that take letters away.
        self.undoing = Sides()
        # What is to be looked at: its kind and size, when it came, and then either an
        # equation with its proof, or two rules and how many letters they share.
        self.waiting = []
        self.many = 0
        # Words of at most this many letters may be looked at, and those of at most
        # this many in which left sides overlap were put to wait.
        self.span = 0
        self.reached = 0
        self.asked_at = FIRST_ASKED
        for place, (one, other) in enumerate(self.equations):
            self.wait_for(told_as_string(one), told_as_string(other), [(0, -1 - place, True)])

    def put_waiting(self, kind, size, told):
        """Let what is told wait, which is of this kind and size."""
        heappush(self.waiting, (kind, size, self.many, told))
        self.many += 1

    def cost_of(self, proof):
        """How many steps the road of a proof may have."""
        return sum([self.costs[number] if number >= 0 else 1 for _, number, _ in proof])

    def wait_for(self, one, other, proof):
        """Let an equation wait, told by both strings and the proof of it."""
        self.put_waiting(BY_ITSELF, len(one) + len(other) + self.cost_of(proof), (one, other, proof))

    def replaced(self, string, right_of):
        """The reduced string, and the proof that leads to it.

        right_of tells for a rule what comes in for its left side, and the proof
        that leads there from its right side.
        """
        left = []
        waiting = list(string[::-1])
        proof = []
        while waiting:
            left.append(waiting.pop())
            number = told_of_end(self.tree, left)
            if number is not None:
                del left[len(left) - len(self.found[number][0]):]
                right, led = right_of(number)
                at = len(left)
                proof.append((at, number, True))
                proof.extend([(place + at, rule, forward) for place, rule, forward in led])
                waiting.extend(right[::-1])
        return "".join(left), proof

    def reduced(self, string):
        """The reduced string, and the proof that leads to it, by right sides as they were found."""
        return self.replaced(string, lambda number: (self.found[number][1], []))

    def reduced_as_told(self, string):
        """What the System reduces a string of any length to, and the proof that leads to it.

        The right sides of the System are reduced, which long words may tell from others.
        """
        return self.replaced(string, lambda number: self.reduced(self.found[number][1]))

    def drop(self, left):
        """Let a rule go, since a shorter left side stands in its own; what it says waits."""
        # It stays in the tree, where the shorter one always ends first.
        number = self.standing[left]
        del self.standing[left]
        for sides in self.sides_of(number):
            sides.drop_side(left, number)
        self.wait_for(left, self.found[number][1], [(0, number, True)])

    def sides_of(self, number):
        """All in which the left side of a rule stands."""
        left, right, _ = self.found[number]
        return [self.sides, self.undoing] if is_undoing(left, right) else [self.sides]

    def wait_for_overlaps(self, kind, sides, number, most):
        """Let the words of at most most letters wait in which a rule overlaps with some sides."""
        left = self.found[number][0]
        for other, size in sides.behind(left, 0, most):
            self.wait_for_overlap(kind, number, other, size)
        for other, size in sides.ahead(left, 0, most):
            if other != number:
                self.wait_for_overlap(kind, other, number, size)

    def wait_for_overlap(self, kind, one, other, size):
        """Let the word wait in which two left sides share so many letters."""
        letters = sum([len(side) for number in (one, other) for side in self.found[number][:2]]) - 2 * size
        steps = self.costs[one] + self.costs[other] if kind == BY_ITSELF else 0
        self.put_waiting(kind, letters + steps, (one, other, size))

    def wait_for_length(self, length):
        """Let the words of so many letters wait in which left sides overlap."""
        self.reached = length
        for left, number in self.standing.items():
            for other, size in self.sides.behind(left, length, length):
                self.wait_for_overlap(BY_OVERLAP, number, other, size)

    def put(self, left, right, proof):
        """Put a rule to those that stand."""
        longer = [other for other in self.standing if left in other]
        for other in longer:
            self.drop(other)
        number = len(self.found)
        self.found.append((left, right, proof))
        self.costs.append(self.cost_of(proof))
        self.standing[left] = number
        put_left(self.tree, left, number)
        for sides in self.sides_of(number):
            sides.put_side(left, number)
        undoing = self.sides if is_undoing(left, right) else self.undoing
        self.wait_for_overlaps(BY_ITSELF, undoing, number, self.span)
        self.wait_for_overlaps(BY_OVERLAP, self.sides, number, self.reached)

    def compare(self, one, other, proof):
        """Look at an equation; it makes a rule unless both sides are reduced to the same."""
        left, led = self.reduced(one)
        right, other_led = self.reduced(other)
        if left == right:
            return
        whole = back_along(led) + proof + other_led
        if rank(left) < rank(right):
            self.put(right, left, back_along(whole))
        else:
            self.put(left, right, whole)

    def stands(self, number):
        """Whether a rule stands."""
        return self.standing.get(self.found[number][0]) == number

    def look(self, one, other, size):
        """Look at the word in which two rules share so many letters, unless one of them went."""
        if not self.stands(one) or not self.stands(other):
            return
        left, right, _ = self.found[one]
        second, second_right, _ = self.found[other]
        front = left[:len(left) - size]
        self.compare(right + second[size:], front + second_right, [(0, one, False), (len(front), other, True)])

    def look_at_all(self):
        """Look at all that waits, and at what comes to it."""
        while self.waiting:
            _, _, _, (one, other, rest) = heappop(self.waiting)
            if isinstance(one, str):
                self.compare(one, other, rest)
            else:
                self.look(one, other, rest)
            if len(self.standing) >= self.asked_at:
                self.ask()

    def go_on(self, span):
        """Go on until all words of at most span letters tell nothing new; TooMany once that is sure."""
        self.span = span
        self.look_at_all()
        for length in range(self.reached + 1, span + 1):
            self.wait_for_length(length)
            self.look_at_all()

    def ask(self):
        """TooMany if it is sure that more rules will stand than a System has."""
        many = len(self.standing)
        self.asked_at = many * ASKED_AGAIN
        moves = min(many * MOVES_FOR_EACH, MOST_MOVES)
        if are_surely_more(self.group, list(self.standing), MOST_REPLACED, moves):
            raise TooMany(MOST_REPLACED)

    def system(self):
        """The System of what was found; TooMany if it has too many rules."""
        if len(self.standing) > MOST_REPLACED:
            raise TooMany(MOST_REPLACED)
        rules = []
        for left in sorted(self.standing, key=rank):
            right, _ = self.reduced(self.found[self.standing[left]][1])
            rules.append((told_as_word(left), told_as_word(right)))
        return System(self.group.back, rules)


def completed(group, span):
    """The Completion of a group at a span."""
    completion = Completion(group, span)
    completion.go_on(span)
    return completion
