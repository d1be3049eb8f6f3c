"""Words put together of blocks, and blocks taken apart again.

A list of entries is one of pairs (block, many), each standing for so many of
this block side by side. The sides of a word are what becomes of it whatever
stands ahead and behind: for each step of the levels the entries that its left
end and its right end have there, which neighbours may join.
"""

from gatewords.blocks import MOST_LEVEL, PAIR, RUN


def opened(blocks, entry):
    """The entries of one block of an entry, and those of the others."""
    block, many = entry
    kind, first, second = blocks.made[block]
    inner = [(first, second)] if kind == RUN else [(first, 1), (second, 1)]
    return inner, [(block, many - 1)] if many > 1 else []


def open_first(blocks, entries, level):
    """Open the first block of a list of entries until it is one of at most this level."""
    while blocks.levels[entries[0][0]] > level:
        inner, others = opened(blocks, entries[0])
        entries[:1] = inner + others


def open_last(blocks, entries, level):
    """Open the last block of a list of entries until it is one of at most this level."""
    while blocks.levels[entries[-1][0]] > level:
        inner, others = opened(blocks, entries[-1])
        entries[-1:] = others + inner


def opened_all(blocks, entries, level):
    """The entries with all blocks opened that are above this level."""
    found = []
    waiting = entries[::-1]
    while waiting:
        entry = waiting.pop()
        if blocks.levels[entry[0]] <= level:
            found.append(entry)
        else:
            inner, others = opened(blocks, entry)
            waiting.extend((inner + others)[::-1])
    return found


def end_block(blocks, block, level, last):
    """The first block of at most this level with which a block begins, or the last one with which it ends."""
    while blocks.levels[block] > level:
        block = blocks.inner_blocks(block)[-1 if last else 0]
    return block


def sides_of_step(blocks, entries, level):
    """Take off what neighbours may join on the step to this level; what was taken off on either side.

    On an odd level this is the first and the last stretch, on an even one a
    first block with the bit 1 and a last one with the bit 0. Of what stays
    nothing is opened, since its blocks stay together.
    """
    left = []
    if level & 1 or blocks.bit(end_block(blocks, entries[0][0], level - 1, False), level):
        open_first(blocks, entries, level - 1)
        left.append(entries.pop(0))
    right = []
    if entries and (level & 1 or not blocks.bit(end_block(blocks, entries[-1][0], level - 1, True), level)):
        open_last(blocks, entries, level - 1)
        right.append(entries.pop())
    return left, right


def sides_of(blocks, entries):
    """The sides of the word of a list of entries that stand side by side in some word: pairs for each step."""
    entries = list(entries)
    found = []
    level = 1
    while entries:
        if level > MOST_LEVEL:
            found.append((opened_all(blocks, entries, MOST_LEVEL), []))
            break
        found.append(sides_of_step(blocks, entries, level))
        level += 1
    return found


def stretches_of(entries):
    """The entries, those side by side with one block put together."""
    found = []
    for block, many in entries:
        if found and found[-1][0] == block:
            found[-1] = (block, found[-1][1] + many)
        else:
            found.append((block, many))
    return found


def stepped(blocks, entries, level):
    """What becomes of entries on a level, as told by themselves."""
    if level & 1:
        return [(blocks.run(block, many), 1) for block, many in stretches_of(entries)]
    found = []
    for entry in entries:
        # A block that was put together here stands above this level's bits.
        if found and found[-1][1] == 1 and blocks.become_one(found[-1][0], entry[0], level):
            found[-1] = (blocks.pair(found[-1][0], entry[0]), 2)
        else:
            found.append(entry)
    return [(block, 1) for block, _ in found]


def put_from_left(blocks, entries):
    """The block of entries above the greatest level, put together from the left."""
    numbers = [blocks.run(block, many) for block, many in stretches_of(entries)]
    block = numbers[0]
    for other in numbers[1:]:
        block = blocks.pair(block, other)
    return block


def block_of(blocks, entries, level):
    """The block of the word of entries, which stand as they do ahead of the step to a level; None for none."""
    while len(entries) > 1 or entries and entries[0][1] > 1:
        if level > MOST_LEVEL:
            return put_from_left(blocks, entries)
        entries = stepped(blocks, entries, level)
        level += 1
    return entries[0][0] if entries else None


def block_of_letters(blocks, letters):
    """The block of the word of some letters."""
    return block_of(blocks, [(blocks.letter_block(letter), 1) for letter in letters], 1)


def block_of_sides(blocks, words):
    """The block of the words with these sides, one behind the other.

    A zone stands between the middles of two words side by side, and one at
    either end; two become one as soon as nothing is left of the middle between.
    """
    words = [sides for sides in words if sides]
    zones = [[] for _ in range(len(words) + 1)]
    level = 1
    while words:
        for place, sides in enumerate(words):
            left, right = sides[level - 1]
            zones[place] = zones[place] + left
            zones[place + 1] = right + zones[place + 1]
        kept = zones[:1]
        for place, sides in enumerate(words):
            if len(sides) == level:
                kept[-1] = kept[-1] + zones[place + 1]
            else:
                kept.append(zones[place + 1])
        words = [sides for sides in words if len(sides) > level]
        if not words:
            return block_of(blocks, kept[0], level)
        zones = [stepped(blocks, zone, level) for zone in kept]
        level += 1
    return None


def entries_of(blocks, block, start, end):
    """The entries of the letters of a block from start to before end."""
    found = []
    waiting = [(block, 1, 0)] if start < end else []
    while waiting:
        here, many, at = waiting.pop()
        size = blocks.sizes[here]
        low = max(start - at, 0)
        high = min(end - at, size * many)
        if low >= high:
            continue
        if high - low == size * many:
            found.append((here, many))
        elif many > 1:
            waiting.extend(cut_run(here, size, low, high, at))
        else:
            kind, first, second = blocks.made[here]
            if kind == PAIR:
                waiting.append((second, 1, at + blocks.sizes[first]))
            waiting.append((first, 1 if kind == PAIR else second, at))
    return found


def cut_run(block, size, low, high, at):
    """The parts, the last one first, of many blocks of this size side by side from low to before high."""
    first = -(-low // size)
    last = high // size
    if first > last:
        return [(block, 1, at + last * size)]
    found = []
    if last * size < high:
        found.append((block, 1, at + last * size))
    if first < last:
        found.append((block, last - first, at + first * size))
    if low < first * size:
        found.append((block, 1, at + (first - 1) * size))
    return found


def block_of_parts(blocks, parts):
    """The block of parts of blocks, told by block, start and end, one behind the other; None for none."""
    words = [entries_of(blocks, block, start, end) for block, start, end in parts if start < end]
    return block_of_sides(blocks, [sides_of(blocks, entries) for entries in words])


def open_top(blocks, waiting):
    """Open the first block of entries that wait, the first ones last."""
    inner, others = opened(blocks, waiting.pop())
    waiting.extend(others + inner[::-1])


def alike_ahead(blocks, one, other):
    """With how many letters the words of two lists of entries begin alike."""
    one = one[::-1]
    other = other[::-1]
    many = 0
    while one and other:
        first, times = one[-1]
        second, other_times = other[-1]
        if first == second:
            both = min(times, other_times)
            many += both * blocks.sizes[first]
            one[-1:] = [(first, times - both)] if times > both else []
            other[-1:] = [(second, other_times - both)] if other_times > both else []
            continue
        level = blocks.levels[first]
        other_level = blocks.levels[second]
        if level == 0 and other_level == 0:
            return many
        if level >= other_level:
            open_top(blocks, one)
        if other_level >= level:
            open_top(blocks, other)
    return many
