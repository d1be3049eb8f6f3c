"""Left sides of rules, found in words and by the letters with which they begin and end.

A tree of them is read from their last letters on: a node tells for letters the
node ahead of them, and under ENDED what is told of the left side that begins
there. No left side is ().
"""

ENDED = -1


def put_left(tree, left, told):
    """Put a left side into a tree, with what is told of it."""
    node = tree
    for letter in left[::-1]:
        node = node.setdefault(letter, {})
    node[ENDED] = told


def told_of_end(tree, letters):
    """What is told of the shortest left side with which a list of letters ends, None if there is none."""
    node = tree
    at = len(letters)
    while at:
        at -= 1
        node = node.get(letters[at])
        if node is None:
            return None
        if ENDED in node:
            return node[ENDED]
    return None


def reduced_letters(tree, word):
    """The list of letters that is left of a word when left sides that end first are replaced.

    A tree tells here of each left side the pair of its length and its right
    side. What was read and has no left side in it is not looked at again.
    """
    left = []
    waiting = list(word[::-1])
    while waiting:
        left.append(waiting.pop())
        told = told_of_end(tree, left)
        if told is not None:
            size, right = told
            del left[len(left) - size:]
            waiting.extend(right[::-1])
    return left


def has_left(tree, word):
    """Whether a left side stands in a word."""
    read = []
    for letter in word:
        read.append(letter)
        if told_of_end(tree, read) is not None:
            return True
    return False


def overlapping(numbers, parts, length, least, most):
    """What overlaps with a left side of this length by one of its parts, in words of least to most letters.

    The parts have 1, 2, 3, .. letters. A list of pairs of the number and how many
    letters are shared.
    """
    found = []
    for size, part in enumerate(parts, start=1):
        for other, told in numbers.get(part, {}).items():
            if least <= length + other - size <= most:
                found.extend([(number, size) for number in told])
    return found


class Sides:
    """Left sides with numbers, found by the letters with which they begin or end."""

    def __init__(self):
        # By such letters, and then by the length of the left side.
        self.fronts = {}
        self.ends = {}

    def put_side(self, left, number):
        """Put a left side with its number."""
        for size in range(1, len(left)):
            self.fronts.setdefault(left[:size], {}).setdefault(len(left), {})[number] = True
            self.ends.setdefault(left[-size:], {}).setdefault(len(left), {})[number] = True

    def drop_side(self, left, number):
        """Let a left side go."""
        for size in range(1, len(left)):
            del self.fronts[left[:size]][len(left)][number]
            del self.ends[left[-size:]][len(left)][number]

    def behind(self, left, least, most):
        """The numbers of what overlaps with the end of a left side, with how many letters are shared."""
        parts = [left[-size:] for size in range(1, len(left))]
        return overlapping(self.fronts, parts, len(left), least, most)

    def ahead(self, left, least, most):
        """The numbers of what overlaps with the beginning of a left side, likewise."""
        parts = [left[:size] for size in range(1, len(left))]
        return overlapping(self.ends, parts, len(left), least, most)
