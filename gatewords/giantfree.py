"""Giants freed of neighbours that undo one another, and led along tables."""

from gatewords.blockjoins import block_of_parts
from gatewords.blocks import LETTER, PAIR, Blocks
from gatewords.cosettables import want_table
from gatewords.errors import BadGiant
from gatewords.giants import EMPTY, alike_words, giant_told, put_giant, put_parts, put_power, want_giant, want_giants
from gatewords.groups import want_group
from gatewords.machines import want_machine


def joined_free(blocks, one, other):
    """The free word of two free words one behind the other."""
    many = alike_words(blocks, one[1], other[0])
    size = blocks.size_of(one[0])
    return put_parts(blocks, [(one, 0, size - many), (other, many, blocks.size_of(other[0]))])


def power_free(blocks, word, many):
    """The free word of a free word so many times."""
    size = blocks.size_of(word[0])
    front = alike_words(blocks, word[0], word[1])
    if front == size:
        # It undoes itself, or has no letters.
        return word if many & 1 else EMPTY
    core = put_power(blocks, put_parts(blocks, [(word, front, size - front)]), many)
    return put_parts(blocks, [(word, 0, front), (core, 0, blocks.size_of(core[0])), (word, size - front, size)])


def starts_of(blocks, block, order):
    """For each block within a block a place where it begins there; order has those ahead of their own ones."""
    starts = {block: 0}
    for here in order:
        kind, first, second = blocks.made[here]
        if kind != LETTER:
            starts[first] = starts[here]
        if kind == PAIR:
            starts[second] = starts[here] + blocks.sizes[first]
    return starts


class Freeing:
    """The free words of all blocks of a word."""

    def __init__(self, blocks, word):
        self.blocks = blocks
        self.word = word
        order = blocks.within(word[0])
        self.starts = starts_of(blocks, word[0], order[::-1])
        # For each block its free word, None where it is free itself as long as its word was not asked for.
        self.words = {}
        for block in order:
            self.words[block] = self.worked_out(block)

    def is_free(self, block):
        """Whether a block, the free words of its own ones being known, is free itself."""
        blocks = self.blocks
        kind, first, second = blocks.made[block]
        if kind == LETTER:
            return True
        other = second if kind == PAIR else first
        if self.words[first] is not None and self.words[first][0] != first:
            return False
        if self.words[other] is not None and self.words[other][0] != other:
            return False
        return blocks.firsts[other] != blocks.back[blocks.lasts[first]]

    def worked_out(self, block):
        """The free word of a block, None if it is free itself."""
        if self.is_free(block):
            return None
        kind, first, second = self.blocks.made[block]
        if kind == PAIR:
            return joined_free(self.blocks, self.free_word(first), self.free_word(second))
        return power_free(self.blocks, self.free_word(first), second)

    def free_word(self, block):
        """The free word of a block."""
        if self.words[block] is None:
            size = self.blocks.sizes[self.word[0]]
            end = size - self.starts[block]
            # What undoes the block stands in what undoes the word.
            turned = block_of_parts(self.blocks, [(self.word[1], end - self.blocks.sizes[block], end)])
            self.words[block] = (block, turned)
        return self.words[block]


def free_of(blocks, word):
    """The free word of a word in blocks."""
    if word == EMPTY:
        return word
    return Freeing(blocks, word).free_word(word[0])


def free_giant(giant):
    """The free word of a giant, with the blocks that tell it."""
    blocks = Blocks(giant.back)
    return blocks, free_of(blocks, put_giant(blocks, giant))


def giant_free(giant):
    """The Giant without neighbours that undo one another, taken out again and again."""
    want_giant(giant)
    blocks, word = free_giant(giant)
    return giant_told(blocks, word)


def free_both(one, other):
    """The free words of two giants, with the blocks that tell them."""
    blocks = Blocks(one.back)
    first = free_of(blocks, put_giant(blocks, one))
    return blocks, first, free_of(blocks, put_giant(blocks, other))


def giants_alike(one, other):
    """Whether two giants are alike in the group without rules."""
    want_giants(one, other)
    _, first, second = free_both(one, other)
    return first == second


def led_one_after_other(leads, others):
    """Where states are led by one list of states and then by another one."""
    return [others[to] for to in leads]


def led_many_times(leads, many):
    """Where states are led by a list of states so many times."""
    found = list(range(len(leads)))
    while many:
        if many & 1:
            found = led_one_after_other(found, leads)
        leads = led_one_after_other(leads, leads)
        many = many // 2
    return found


def goal_of(ways, giant):
    """The state to which a giant leads from 0 by the ways of a table."""
    blocks = Blocks(giant.back)
    block, _ = put_giant(blocks, giant)
    leads = {}
    for here in blocks.within(block):
        kind, first, second = blocks.made[here]
        if kind == LETTER:
            leads[here] = [way[first] for way in ways]
        elif kind == PAIR:
            leads[here] = led_one_after_other(leads[first], leads[second])
        else:
            leads[here] = led_many_times(leads[first], second)
    return 0 if block is None else leads[block][0]


def giant_goal(group, table, giant):
    """The state of a table to which a giant leads from 0."""
    want_group(group)
    want_machine(table)
    want_giant(giant)
    want_table(group, table)
    if giant.back != group.back:
        raise BadGiant("back")
    return goal_of(table.ways, giant)
