"""Powers of words put together of blocks, however many times."""

from gatewords.blockjoins import block_of, sides_of, stepped, stretches_of
from gatewords.blocks import MOST_LEVEL

# From so many times on what stands side by side is not written out.
MANY_TIMES = 8


def turned_once(front, inner, times, behind):
    """The same word with the first entry of what is repeated taken from each time to the one ahead."""
    return front + inner[:1], inner[1:] + inner[:1], times - 1, inner[1:] + behind


def joins_itself(blocks, inner, level):
    """Whether, on a step, the end of what is repeated joins its own beginning behind it."""
    if level & 1:
        return inner[0][0] == inner[-1][0]
    return blocks.become_one(inner[-1][0], inner[0][0], level)


def block_of_repeated(blocks, repeated, level):
    """The block of a word told by what is in front, repeated, how many times, and behind, ahead of a step."""
    front, inner, times, behind = repeated
    while times > MANY_TIMES and level <= MOST_LEVEL:
        if level & 1:
            inner = stretches_of(inner)
        if len(inner) == 1:
            return block_of(blocks, front + [(inner[0][0], inner[0][1] * times)] + behind, level)
        if joins_itself(blocks, inner, level):
            front, inner, times, behind = turned_once(front, inner, times, behind)
        # With one more time on either side all ends of what is repeated have the same beside them.
        front = stepped(blocks, front + inner, level)
        behind = stepped(blocks, inner + behind, level)
        inner = stepped(blocks, inner, level)
        times -= 2
        level += 1
    return block_of(blocks, front + inner * times + behind, level)


def block_of_power(blocks, block, many):
    """The block of the word of a block so many times; None for the word of no letters."""
    if block is None or many == 0:
        return None
    sides = sides_of(blocks, [(block, 1)])
    front, inner, behind = [], [], []
    for place, (left, right) in enumerate(sides):
        if place:
            front, inner, behind = [stepped(blocks, zone, place) for zone in (front, inner, behind)]
        front = front + left
        inner = right + inner + left
        behind = right + behind
    return block_of_repeated(blocks, (front, inner, many - 1, behind), len(sides))
