"""Trees of the left sides of rules, read from their last letters on.

A node tells for letters the node ahead of them, and under ENDED what is told of
the left side that begins there. No left side is ().
"""

ENDED = -1


def put_left(tree, left, told):
    """Put a left side into a tree, with what is told of it."""
    node = tree
    for letter in left[::-1]:
        node = node.setdefault(letter, {})
    node[ENDED] = told


def told_of_end(tree, letters):
    """What is told of the shortest left side with which a list of letters ends, None if there is none."""
    node = tree
    at = len(letters)
    while at:
        at -= 1
        node = node.get(letters[at])
        if node is None:
            return None
        if ENDED in node:
            return node[ENDED]
    return None


def reduced_letters(tree, word):
    """The list of letters that is left of a word when left sides that end first are replaced.

    A tree tells here of each left side the pair of its length and its right
    side. What was read and has no left side in it is not looked at again.
    """
    left = []
    waiting = list(word[::-1])
    while waiting:
        left.append(waiting.pop())
        told = told_of_end(tree, left)
        if told is not None:
            size, right = told
            del left[len(left) - size:]
            waiting.extend(right[::-1])
    return left


def has_left(tree, word):
    """Whether a left side stands in a word."""
    read = []
    for letter in word:
        read.append(letter)
        if told_of_end(tree, read) is not None:
            return True
    return False
