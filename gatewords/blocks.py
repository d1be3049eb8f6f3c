"""Blocks, of which long words are made so that equal words have equal blocks.

A word is put together level by level. On odd levels each greatest stretch of
one block becomes a block of its own, a RUN. On even levels two blocks side by
side become one, a PAIR, if the first one has the bit 0 there and the second one
the bit 1. So what becomes of blocks is told by them and their neighbours alone,
and a word always comes to the same last block, however it was told.

The bits are those of a number that is worked out of the block itself. They
tell how soon words come to one block, never what is told of them.
"""

LETTER = 0
PAIR = 1
RUN = 2

# Above this level, an even one, which no word comes near, blocks are put
# together from the left, so that there is an end whatever the bits are.
MOST_LEVEL = 1200
MARK_BITS = 64
MASK = 2 ** 64 - 1


def mixed(number):
    """A number of 64 bits that hangs on all bits of a number."""
    number = number & MASK
    number = (number ^ number >> 31) * 0x9E3779B97F4A7C15 & MASK
    number = (number ^ number >> 29) * 0xBF58476D1CE4E5B9 & MASK
    return number ^ number >> 32


class Blocks:
    """Blocks of letters that a back tells, each one there once; they are told by numbers."""

    def __init__(self, back):
        self.back = back
        self.known = {}
        # For each block what it is made of, how many letters it has, its level,
        # the number that tells its bits, its first and its last letter.
        self.made = []
        self.sizes = []
        self.levels = []
        self.marks = []
        self.firsts = []
        self.lasts = []

    def block(self, told, size, level, mark, ends):
        """The number of the block that is made as told, which is put behind the others if it is new."""
        self.known[told] = len(self.made)
        self.made.append(told)
        self.sizes.append(size)
        self.levels.append(level)
        self.marks.append(mixed(mark))
        self.firsts.append(ends[0])
        self.lasts.append(ends[1])
        return len(self.made) - 1

    def letter_block(self, letter):
        """The block of a letter."""
        told = (LETTER, letter, 0)
        if told in self.known:
            return self.known[told]
        return self.block(told, 1, 0, letter + 1, (letter, letter))

    def run(self, inner, many):
        """The block of another one so many times."""
        if many == 1:
            return inner
        told = (RUN, inner, many)
        if told in self.known:
            return self.known[told]
        level = self.levels[inner] + 1 | 1
        mark = self.marks[inner] * 0xD6E8FEB86659FD93 + many * 0xA0761D6478BD642F + 3
        ends = (self.firsts[inner], self.lasts[inner])
        return self.block(told, self.sizes[inner] * many, level, mark, ends)

    def pair(self, one, other):
        """The block of two others."""
        told = (PAIR, one, other)
        if told in self.known:
            return self.known[told]
        mark = self.marks[one] * 0xE7037ED1A0B428DB + self.marks[other] * 0x8EBC6AF09C88C6E3 + 5
        ends = (self.firsts[one], self.lasts[other])
        return self.block(told, self.sizes[one] + self.sizes[other], self.level_of_pair(one, other), mark, ends)

    def bit(self, block, level):
        """The bit of a block on an even level; each bit of its mark stands there twice, once turned over."""
        place = level // 2 - 1
        return self.marks[block] >> place // 2 % MARK_BITS & 1 ^ place & 1

    def become_one(self, one, other, level):
        """Whether two blocks side by side become one on an even level."""
        return not self.bit(one, level) and self.bit(other, level) == 1

    def level_of_pair(self, one, other):
        """The level on which two blocks side by side become one."""
        level = max(self.levels[one], self.levels[other]) // 2 * 2 + 2
        while level <= MOST_LEVEL and not self.become_one(one, other, level):
            level += 2
        return min(level, MOST_LEVEL + 1)

    def put(self, nodes):
        """The last block of a list of what blocks are made of, places standing for those ahead; None if none."""
        numbers = []
        for kind, first, second in nodes:
            if kind == LETTER:
                numbers.append(self.letter_block(first))
            elif kind == RUN:
                numbers.append(self.run(numbers[first], second))
            else:
                numbers.append(self.pair(numbers[first], numbers[second]))
        return numbers[-1] if numbers else None

    def inner_blocks(self, block):
        """The blocks of which a block is made, one or two."""
        kind, first, second = self.made[block]
        if kind == LETTER:
            return []
        return [first] if kind == RUN else [first, second]

    def within(self, block):
        """All blocks of which a block is made in the end, each behind its own ones, itself last."""
        met = {}
        order = []
        waiting = [] if block is None else [(block, False)]
        while waiting:
            here, behind = waiting.pop()
            if behind:
                order.append(here)
            elif here not in met:
                met[here] = True
                waiting.append((here, True))
                waiting.extend([(inner, False) for inner in self.inner_blocks(here)[::-1]])
        return order

    def nodes_of(self, block):
        """The tuple of what a block, and those in it, are made of, as put takes it; () for None."""
        order = self.within(block)
        places = {inner: place for place, inner in enumerate(order)}
        found = []
        for inner in order:
            kind, first, second = self.made[inner]
            if kind == LETTER:
                found.append((kind, first, 0))
            else:
                found.append((kind, places[first], places[second] if kind == PAIR else second))
        return tuple(found)

    def size_of(self, block):
        """How many letters a block has, 0 for None."""
        return 0 if block is None else self.sizes[block]
